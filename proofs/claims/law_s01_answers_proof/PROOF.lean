import PyProof.Rows.All
import Wide.All
import OpenK.AllK
import Wide.FinOn
import PyProof.EqAt
import PyProof.EqKinds
import PyProof.TupleCall
import KE.BitLaws
import KE.KLam
import PyProof.ExcAttrAll.ValueError
import KE.OsHead
import Open.Tops
import KE.OsGo
import Open.SpecLaws
import KE.OsShapes
import PySem.Challenge.RW_linkparts_s01_answers
set_option Elab.async false
set_option linter.all false
set_option maxRecDepth 1000000
set_option maxHeartbeats 0
set_option hygiene false
set_option compiler.extract_closed false
abbrev kkS:=Lean.Syntax
abbrev kkM:=Lean.MacroM kkS
def kkU(x:Lean.Unhygienic Lean.Term):kkS:=(Lean.Unhygienic.run x).raw
def kkP:Nat->kkS->kkS
|0,s=>s
|n+1,s=>let f:=λk x=>Lean.Syntax.node .none k x;let p:=if s.isOfKind `Lean.Parser.Term.anonymousCtor then f `Lean.Parser.Tactic.rcasesPat.tuple #[s[0],f `null (s[1].getArgs.mapIdx λi x=>if i%2==0 then kkP n x else x),s[2]] else if s.isOfKind `Lean.Parser.Term.hole then f `Lean.Parser.Tactic.rcasesPat.ignore s.getArgs else f `Lean.Parser.Tactic.rcasesPat.one #[s];f `Lean.Parser.Tactic.rcasesPatLo #[f `Lean.Parser.Tactic.rcasesPatMed #[f `null #[p]],f `null #[]]
def kkT0:=kkU `([true,rfl,(AE),none,some j',false,(Aq),AG l,Ae o,⟨j',l'⟩,Eg Nat,Prop,⟨j',l',x'⟩,AG (j'),Eg Int,dt Ab,by grind,X.K,Ae (j'),_,(j':Int),sl3 j',Nat,p.1,Au (j':Aw),zW (LX) m j' B o,_,Cg j' l' B,.ref j',AG x,by omega,sjT j',(j').length,AG t,nN W j',.stuck,.inl j',(Jx 1),H a,(AY),⟨j',l',x',y'⟩,_,Gp (j'=l'),s.heap.objs.size,N.K,AZ [Au,j'],f.ur.length,λj' l'=>?_,Ae c,(j').natAbs,by simp,.int j',Aum N H,_])
def kkT1:=kkU `([Eg V,y9 zb m j',wH N X E cl j' l',_,AC a,(Jx 0),s.heap,Bool,Ae x,(Df),h.1,Gp (j'<l'),Int,Gp (j'<=l'),if j' then l' else x',(j').map l',Type,(N.w g),_,.sD,MR H s,pos,.inr j',sdP j',X.prog,λj' l' x'=>?_,Eg Eh,_,AG C,X.w,p.2,⟨j',l',x',y',J',K',M'⟩,Str,.tup j',1000,(EL),x.drop j',As CL,.none,Fw (j'),eq_of_beq j',_,vV R j',AG J,(K0 P),_,j'->Bh,λj' l' x' y'=>?_,Ae u,H b,.nil,C_ l j',sd_ j',_])
def kkT2:=kkU `([x.a,by rw[j'];show l',100,As [AT,j'],Jy (j'),AG o,NU j' l' x' o,by rfl,l.map j',Au b,h.2,_,sl4 j',(j':Aw),(j':Rat),t[k]?,ts K c,(Jf j' l'),alw hs,Eg K,j'<=MM,(Bo j' l' x'),.str j',_,x.b,y.b,sk (K:=K) j',Ceu j' ρ,_,(Hl k),_,q.at_,q.1,if j' then l' else x',AZ i,Ej Aa,AG y,uu l,.err j' l',BH [j',l'],by simp[j'],cl.τ,(JC),_,l[k]?,(Dg),Ae _,j'≠0,.lst j',_,by kernel_rfl,f.sq.length,sV W j' l',_])
def kkT3:=kkU `([_,sdP Ac,(DC),sck u,Bxf (j'),Jx 2,Jx 4,dyads l,X.env,sl5.mp j',sh0 hs,Eg BG,j'<=GV,t.drop k,(Ach),_,CW (j'),JI j' (l'),⟨j',l',x',y',J',K'⟩,(l++[i]),eval j' Di,As [AZ,j'],OK K,Ix l,VL l,skJ j',(j',Bt),⟨j',l',x',y',J',K',M',O'⟩,by decide,isLength j',sF J j',PE X j' l',"lines",X.base,h.2.2,JI [Bic,j'] l',(Dq j'),⟨j',l',x',y',J'⟩,i.line,.type j',_,DL j' l' x' Ab y',Ga (j'),by rw[j'];grind,f.xL,(j').trans l',base,Md L M,rat j',(j',l')∈x',by rw[j'];rfl,if j' then l' else x',QE (Fx×Obj),_])
def kkT4:=kkU `([Ae d,(Cb j' l'),AZ (j'),Ff (j'),x.1,DF (j') (l'),List j',Value,sU H j' l',λ_=>j',pure j',JD Cf,(Ch),AT b,QC H s,Ae (j',l'),_,isX,_,MN (j'),∀k,j',s.heap.get? j',.ok j' l',As [AC,j'],Au k,Eg Fx,λj' l' x' y' J'=>?_,N.gh,AZ j,So (j') l',_,_,.ok j',(32::j'),Li (j') l',.cons j' .nil,wpAny j' l' x' y' J' s,Jx 3,Aft [AZ,j'],uv st s t j',_,_,wpAny j' l' (x') y' J' K',_,Le.rfl,_,Jz Eh,QE (j'×l'),b≠j',y.a,(0:K),shN j' l',λe=>j',_])
def kkT5:=kkU `([Cg (n+j') l' [x',y'],by rw[j'];omega,LV (j') (l'),"answered",Aft Akl,.bl j',.lit GO,times j' l',x.take j',Ae v,tm j' P,_,_,_,CW C,X.mg,tI x,_,Eg D,Cw (j'),(j').line,skK j',.ok j' o,Addr,Ae .local,Akp j' l' [F_,x',y'] J',(EJ (j')),_,λj'=>?_,Eg FG,sfo IA j',λI=>I[j']?,Core.D,As [CW,j'],yQ.mp j',AK [Aj,j',l'],(EN k),1075,Bik j' l' Agg,[99,NY,97,110,107],GP l j',p.t,AI x,AC l,(K_),Afy x v,AQ [Au,j'] l',"k",.call j' [NT,l',x'],.cell j',⟨j',?_⟩,show j' by omega,.set j' (l'),_])
def kkT6:=kkU `([(j').toNat,f.bits,BH [Fc,j',l'],DL j' l' Ab x' y',Sn .mul j' l',HQ j' 0 l',Au c,_,sw i,Ae a,(Be),_,_,KP b,λu v=>j',Sl (j'),Ay (j'*l'),x.2,B.2,_,Cqh x,(j').all l',Bkw _ _ _ r j',rat (K:=K) j',.error j',if j' then l' else x',Ce [Ff,j'],[Cc,121,97,Cc],La h,AX z,Bc a t,skL j',λh=>j',115,(j').next λl' x'=>y',c≠j',(Jt j'),t4 (j'),_,Li j' (l'),(Pm),vI R j' l',o.mask,As (tI j'),QB k,X.A,.int j' l',999,(j').Nodup,Bz j' l' e,DD b,(Akr),Ae s,_])
def kkT7:=kkU `([FY X,Afy y u,cE A j' S Af l',_,sl6 j' l',z.2,(j').mpr l',B.1,[a],(-1),.Call j' l' [] x',Rt t j',_,.Attribute j' l' x',sq.length,_,As (sw j'),Ae .cell,Eg Expr,Ci sw,(j').take l',Afr (j') l' F x',_,Ob k,by rw[j',l'],siK X j' l',An (j'++l'),AT p,I.sv,Ev b,Cnw l,λj' l' x' y' J' K'=>?_,Ei a j',Gd j' _ l' x',z.1,BH (j'),λj' l' e=>x',Aml j' l' (x'&&y'),λb j' l'=>x',λk=>j',_,LkFNeutral.natural j' 63,.fld j' l' x',.call j' (EJ l'),⟨j',l',?_⟩,_,(j').toArray,Am _ j' l',(EJ Bj),[112,105,110],AG a,tS j' GT,(JE),_])
def kkT8:=kkU `([Au 0,(Auw j'),AG r,_,most,_,(N.fa f),FX s,Gl X x,(FZ j'),max j' l',v7 (j') l' (x'),j'->JH l',_,ev j' (l') x' y',(j').set l' x',(j').next λl' x'=>App y' J',λj' l' x' h=>y',_,_,(λP=>j'),st.length,FW j' Bf l',cranks j',LkF.rightAll j',if j' then l' else x',f.sq,zV st j' l' x',o.data,X.mg x,zG _ Ab,tJ f,Na Fx,Item,Ae l,Jz Bm,Cw GB,[NY,105,Cc,101,NY],NU j' l' x' st,(N.ca c),_,Qz (j') l' x',pins,(CO Line.uses),_,(Dge),Ma 2,An (j'::l'),Akm (j') l',Apq a,name,Bzt Eh,λb j' l' x'=>y',_])
def kkT9:=kkU `([Ae k,DE x,pow2 j',Ew d j',Aay k,dQ (j') l',Afr (j') l' st x',As [BH,j'],X.calm,Cxe (j') [Bao,l'],Ga j,λi j'=>l',QW o j',Ov (j'),.cons j' l',Hk Aqh j' l',BQ x,Ae C,MP b,λz=>j',Ae i,FX a,Ll 0 j',.var j',.ok j' st,Option j',absurd j' l',s.mask,Jx 5,As [FX,j'],Jx 6,Aj j' (.rider l' x' y' J'),strOf j',j'->Al,Ew (j') l',Lk.lift j',(j').lookup l',BN [AZ,j'],BN [Ff,j'],(Ck).1,Av Ab,QE Ao,AV p Y,top,D.int j',Ga i,q.2,MQ n,Gm j' l' Er x' y' J',Cnx (j'),(Bbl AN),(al9 _),Cd k,_])
def kkT10:=kkU `([JD s,Ma 3,Cos g,At S X,Aj _ j',(sU j' l' (x')),Aba Y j',LU _ j' l',X.env.locals,Value.ref j',List.range' j' 10,RelV j' u,f.bits.length,Akk j' (l') x',Bhz j' GO,(j').bind l',Bw [Aj,j',l'],.free,Aj j' [],u.scope,sJ j' W,Auy Ab,Bxe Ava,Kp j' _,AO _ j' l' x',Jx 8,λj' st=>l',_,Au u,NU j' l' x' FK,JG s,_,BH C,cE j' l' x' y' Af J',Gy e,(λ_ j'=>l'),_,sA D,_,AG I,Baj x,_,Kl v,BZ x,Bxm b,_,Pq qs H Hm,_,λb j'=>l',_,App j' q,FW j' (l') x',by decide+kernel,_])
def kkT11:=kkU `([(j').objs.size,starEach j' Di,rat [Co,j'],.prim j' l',_,.builtin j',Lk.print l,AC C,sba j' l',sE j' G A P l',_,.obj j' l',As [Cw,j'],As [Ex,j'],Cnw k,plus j' l',"line",v.log2,_,_,.own j',DL j' H l' x' y',HQ j' 1 l',sbR st x,.fix j',Coz (MN j') l' x',tG st j',GP ld dv,j'->JH Hp,Au n,_,AG O,Au e,AG z,Jz D,Eg J,.str,DE (j'),AT k,Co [Cn,j'],Aj j' d,C_ L j',siL X j' l',Am 2 j' l',Bav j' O l',_,λ_ j' l'=>x',NT j' (EJ l'),List.replicate j' l',Bb n,sk [Au,j'],mainGlobals,nameText j',_])
def kkT12:=kkU `([(j',[]),skK ?_,zh Ac j',Le B H j' l',Ce [CW,j'],(Lh),⟨?_,j',l'⟩,DT (U.2 j' l') x',AG T,X.N[i]?,_,saW j' m l' x' y',Kn j' [F_,l',x'] y',Fw [DK,j'],ex j' m l' x' y',l[k],EM 2,sA yq,Boe j' x l' x' y',_,Cw FN,Jl j j',X.xA j' l' B x' y',Jz Fx,AF Ac,Ff b,sl7 _ j',SM Agp j',Au i,sj7 j' l',DD a,Rx o j',DD r,Cam j' (l'),sea j' l' x' cl y' J' K' M',Lj e j',GX b j',PS X j' l',sizeLine,.seq j',_,h.get? j',digits j',Boc X σ j' l',A.set i j',sd_ Ac,i.name,by simp[j',l'],p.t.length,aaM (K:=K) j',.int,uy cl j' l' st,Aki cl j' A,_])
def kkT13:=kkU `([EV BG j',(EJ AL),Ae y,xJ j' b l' x',_,letter,L.qual,G.W.nd,(by rw[j',l']),Av Ac,HR j' Bf,G.W.K,_,Ek Af,Ft Aqo,⟨j'⟩,Hu (sbs.drop j') 34,o.x,_,o.y,Ml cl j' l' st,AC b,AF h,_,Ahc st j' l' x',(j').map l',Av h,_,j'->Jz l',(Dgf),(Apr),(Cq),(Fb wc),(EJ BJ),(Ae Y),H' a,sdV l,slB c,Afs x,Co b,Apx W M,Ft [L_,K],(j').data,EI [Bbc,j'] l',vZ j' H a l',(.cons j' l'),y9 zb m j' l' x' y',.ret j',.Name x j',HQ Bf j' l',114,(model By BD),Nat.gcd [AX,j'] l',_])
def kkT14:=kkU `(["enumerate",zi l i j',X.stack,u.qualname,Sr length_ j',show j' by omega,Bhz j' (Akl),.function,HV j' Ab,LkF.says j',_,t8 [Aj,65+v,j'],(j').symm,Ce [AZ,j'],.tail _ j',_,Akj (j') (l'),_,_,Sn .sub j' l',BN (tI j'),Q j' H,X.fn x,Eg Env,Cv j' _ _,CB e,La f,slv hs,(j').isSome,Bap (j') [Bie,l',BY],An GS,Mc Ac,[c],GP lt JR,s_.ok j',AK h,_,B_ h,AG W,Akq st j' l' x',sl8 j' l' λx' y' J'=>K',Au g,slx k,Bl v 26,MP a,Ds j' l' Ab x' y' J',(CI),(Mb),L.uo,AC x,(Bib z),Kl y,Ma 1,_])
def kkT15:=kkU `([Afy d v,Bbe x,vO j' x,Ei p j',JI j' F,Cfd o j',AQ j' 0,Jg j' x l',wD j' p l',Aih j' e l',_,vY K H j' l',AZ 0,_,nameOf l j',(List.range j'),_,As (.ins j' l' x'),akK (p:=j') (q:=l') x' y' Ac,NV (j'),⟨?_,j'⟩,_,.dict j',Am j' l' [Bao,x'],LkF.step s j',⟨j',?_,?_⟩,_,"scanner",sct.mp j',uP e,_,.Name j' l',_,Am j' l' [Bif,x',y'],_,Bos R j',Aql j' [AZ,l'],App j' [Hl,l'],Ga z,Afx j' (l') x',_,sbK ?_,(j').bare,AC AR,_,_,AX d,(j').push l',_,Cet N,.list j',Cw IL,KP UB,_])
def kkT16:=kkU `([Ae Kr,QE Ak,AG s,.enum j',dyads j',_,Rn Ba,.xd [j'],JA j' AN,Dgd Mf j',Bn j' BI,D.bl (j'),(EJ CQ),sif j' l' x' cl y' J',sjZ j' l' x' cl y' J',Cd i,Cex k,Ku C,_,Ckt B,sao s j',Rd H a j',Bof j' p a l' b,AQ (j':Ak) l',.fields j',(j').map λl'=>x',Kn j' l' [FA,x'],scv t j',SA D j' l',KP (K:=K) j',Eg (j'),"figure",C.all t4,G.W.calm,Aj j' (.pin l' x'),.or [Fc,j',l'],L.scope,(Fe),zq l i j',(j').get? l',(j').isEmpty,Iw j' [Fc,l',x'],Aux A.1,iW O,u.code,Eg tM,Akp j' l' x' [FA,y'],CN [AT,j'] l',j'++[uR.lst l'],g.get? j',h.bind j',tm j' Bia,Aj Ab j',Aqp τ' H j'])
def kkT17:=kkU `([∀b∈A,j',Iw j' [FA,l'],Fz j' l' x' y' [Bao,J'],_,_,_,.app j' (l'),Cw HX,EN X,"zip",outer,Lb es,Cet m,j'->Hp->JH VK,_,_,Au 2,tG j' (vr l' x'),y_ st j' l',_,Jg [MZ,j',l'] x' y',∀(K:Bq)[Dw](R:Ct),j',(Bxy),HK b j' l',xX R,_,AT r,_,_,X.fs,_,EQ NZ GT j' l' Agg x',∀j':Aw,l',Aj j' 0,Cd [Cn,j'],AG B,AC t,Cfp j' F x l',Bl b a,cpos,(Bax),(Bxo f),(Alk).2,I.aF,_,I.np,AC c,Co r,Co N,Kj a,xH R sq,Clm d,DJ U V,Atf H h])
def kkT18:=kkU `([_,(Af,Bsk),sF _ j',pV M.F,JI j' s,Alr j' 0,_,l.findIdx? λi=>MU==j',Nd j' l x,Csu (j'*l'),_,decide j',NT j' [NT,l',x'],.bin j' l' (x'),Sn .add j' l',_,X.env.scope,then_ j' l',_,_,Bid j' l' Q x',False.elim j',Aft [Cw,j'],_,{s with heap:=g},{s with heap:=j'},Inv X S j' l' x',_,_,scH _ j',Aku _,by rw[Tf],sA.ok j' l',skJ Ac,RS N j' l' x',Ko AL,Gt st s t j' l' x',_,EK j' A l' Q E,"bench",AC p,_,sdn j' (l'),RE j' CP B H l' A,Ah<=i,_,I.free,Got IH,(j').any l',(Agw).zip j',.dK T,_,Ae Ad,_])
def kkT19:=kkU `([.ins C j' l',Cez j' [Ada,l'] x',(j').getD l' x',V.len,Bba Eh,CW [],cLine,B[k]?,Jz Aw,l.zip j',A.var j',Hv (ev cl j' l' x') y' J',SG j' st,Mo cl j' ρ st,[(0,5)],PQ I,Aqw x,λi=>j',AG A,Ae p,AX a,Apz p,Aqd 29 j' l' x',Ack [Cn,j'],j'<=AH,∀(k:Nat)(l:Eg (Ao)),j',λp j'=>l',Bx h,_,DW q,(Fj),(SO),(G.blt _ (CO see)),(Dj h).1,t4 d,(ag b),AG g,Au P,Au A,AT v,Apz k,FO x,(heading a b),Kf (j') l' x',Pr C Y I,j'≠[],[Byu j'],tf j' s,Jl h j',Ik a b,(2,[j']),λp=>Dgc j',sa7 sq W j',KW T j'])
def kkT20:=kkU `([_,yP f v j',uv (Bvf l) Cf t j',.idx j' (l'),s.heap.push j',sdQ _,(·.1),Lk.items j' (Lk.inversor l' x' y' J' K'),Gx [Co,j'],s_.ite s_.err j',by rw[j',l',x'];grind,compEnvC j' l' x' Di,"__init__",l.contains j',en.length,by unfold j';rw[l',x'],r.at_,_,rawInt j',"number",sQ N B H j' l',As (.uO j'),"range",Eg Stmt,(As j'),Acw j' J,.Assign j' l' x',_,.BoolOp .And j' l',j'<=999999,AZ 2,jK H,Acg [Aqz,j',l'],"list",s.toks,t.drop j',DN Afv,.BoolOp .Or j' l',Jg j' l' [Ce,x'],ai (j'),FX Cf,Aga st,xV l i Ah,HR j' AL,Chk [Pt,j'],Akn Do,.cell,.dead,Agf h Ab,C[i]?,o.cls,C.one,p.pts,isX C])
def kkT21:=kkU `([DE Bir,DE Bis,MN AL,PH j' l' [F_,x',y'] J',De [IB,j',l',x'],vv st j' l',sjS n,Jx i,.pin x y,tW Bas 0 lo,Ei T j',Aja FL,AZ z,Cfb v,Cfb u,Apz q,Ol 1,Ol 0,Ol 2,xq j' Bg l' x',AG c,AT i,(Akl),(taken l),(Bqx),(AC f),sjB m,sfD r,vl o,AG R,Eg _,DL j' l' x' y' os,Cex l,Ek x,uI J t,u∈Hx,X.mg j',Aj j' (.crank p l'),Bap (j') [Bie,6,l'],(j').bind λl' x'=>y',X.env.scope.names.lookup j',.lit (j'),Rp N j' l' x' y',"tuple",S.sc.names.lookup j',.cmp j' l' (x'),Afu B H j' l',attributeBase j' l' Di x',s.turn j' k,Except.error e,i.names.lookup j',B.names.lookup j',compareOp j',sW.eD j' S l'])
def kkT22:=kkU `([X.xe,sbP st j' l' x',I.map tJ,by rw[j',l'];rfl,.ListComp F j' l' x',.Subscript j' l' x',False,K.lookup j',Cxl Df,(Cey),AZ a,t.typeIs,(Cxk),(j',D.sD),scD j' scope l',Apu j' (l') x',(Auv),NT (j') l',s'.heap,"given",(K0 Bia),BU Expr,yC j' a l' x' y',.not (j'),p.twice,AZ _,HU i,o.set a j',Ft [MQ,j'],DQ [Au,j'],Sn .shl j' l',As (.fn j'),Ga v,Jj [Oq,j',l'] x',⟨j',?_,l'⟩,DA [AZ,j'],BH [FA,j'],S.at_ i j' l' x' y',Eg sH,r.mono j',Cw OG,(j').frames,Loc Sq j',Jx 9,Ay Dd,PN .gt j' l',FH (j'),b∉j',AG b,La g,Ae Ax,Cok x,newId,I_ o j' l' x'])
def kkT23:=kkU `([Au r,IsPair j' l' x' y',C[k]?,o[a]?,MN Bf,Apx W JB,LC St,Oy _,SD e,NX 5 1,LL [Boq,j'],s_ j' Acs,Aj c τ,Kq AE [Om,Akx],Dm [AX,j'],FW j' AL l',Auo j' i,by rw[j',l',x'],Cst (2^j'),Gz j' l' AJ,Agv 27 j' l',call (j') l',AF (j'),Au d,Cw w,tI y,GU j' t,Lj a j',Bkw j' l' st r x',Heap,PA X j' l',y_ o j' l',(Att j' (skC P)),(J.resolve_left Ac),(Awv),H' b,t4 v,KP 1,(o7 O),Ae f,(AC z),DE y,Sv Z,Adb C,Cga S,Cgf x,Bjx a,JI Bbh V,Aja d,SR N D,(Bwx k 0),tG o (j'),Core.ev j' l' x' st,.cmp .eq j' l'])
def kkT24:=kkU `([Sm (j') l' x',AZ 1,(j').contains l',I.sv.fresh j',show j' from l',Akk [F_,j',l'] (x') y',Kp (wx j' l' x') y',AK Ab,wholeText j',∀{l:Nat}{x:Ao},j',Aj j' Ab,by let:=j';grind,ofRat j' l',skL h,sysModules,.and [Fc,j',l'],by rw[UM,j'],Jx 7,Sum.inl j',newest t,renamed l j' l',AZ b,_,envOfC j' l' AR x' y',putFrom a j' l' x' y',st.set a j',(Bk).2,uJ sq,LkF.made j' l' x',behind l j' l' x',Sw HX,1000000,Core.uq,Gp (j'≠l'),Sn .fdiv j' l',.lit Bt,if j' then l' else x',sW.new j' l' x' λy' J'=>K',FY Ab,CM [j'] o,Og AL,Ft [Po,j'],∀q∈qs,j',Bxh j' [AC,l'],isPlace j' l',Bp j' sw,xV l i k,Bo j' [Alx,l'] x',Jn [AZ,j'],L.body,st[a]?,S.gl x,Bn [Au,j'] l',AQ j' l'&&(x')])
def kkT25:=kkU `([xP t,spaced j',wE.mp j',Ako j' [Auw,l'],(j').getD 0,He Ac j',codeAny j' l' x' y' J',∀x∈l,j',sma _,Dr [Pt,j'] l',.mk j' [Kn,l',x',Fc y' J'],AT q,AC _,Fu s,IP j' l' [Agt,x'],.Tuple j' l' x',tZ.mp j' l' x',_,wg u,Pu Ab,value,l[j]?,akP Ac,B[i]?,Eg Bh,M_ e,Na Cxg,Bkf Bm,uj ρ i,DE (Boo).x,DE (Boo).y,l.fz j' o l' x' y',AG i,Lk.items j' (Lk.copier Ah l' x' y' J' K'),Aiy _,tP st j',Mt j' Gb,r.d q j',Ako j' Aq,EV κ j',λh=>JA h Dc,sk [Cn,j'],DE l,Gf AL 3,Agv 26 j' l',IW Hx u,(j').all λl'=>x',Bcp (Bcf),Bme [Cod,j'] l',t8 N,skb Ags j' l',LY b,NX 0 3,Bom j' Cfa l'])
def kkT26:=kkU `([Cm h,SW [Avh,j',l'] Aci,(ye P w),Ms [CB,a] j' l' x',Beb j' l' x' Ad,(Bw Ab),(dA Ab),(Gf AL 2),(Bk).1,[CI],A.sc,Ae L,Ae D,Au 1,Sl _,AC d,JD a,Na V,PJ M,skB.getD c 0,Aqm i,Cga s,Ayq k,GU 0 0,{cls:=.type j',data:=l'},D.int [Au,j'],(match j' with|some (.cell a)=>l'|_=>x'),.ok (j',l'),As [Ae,j'],l.take k,Str.ofString j',I.tok _,FW j' l' [FA,x'],LkFNeutral.whole j',en.map pD,t6 j' l' 0 DS,M.testBit j',uA l j',valueOf10 (j'),(by rw[j',l'];omega),L.uo.length,FW j' l' [Fc,x',y'],newName l,O.map some,Eg Keyword,(NW p),"squares",(j').ext (l').extBut x',I.ok.kind,CN [AZ,j'] l',f.ur[j']?,Cxi 68,Po p,Avc j' B l' D x'])
def kkT27:=kkU `([.bool Af,(j').x.length,(j').y.length,Rf j' B H l' x',signed j',factor N j',sfo sq j',HT.tW j' l' lo,Lk.mul t j' l',Apm j' [Qy,l'],Sw GB,Pt (uu k),(LW j' l').flatten,saf.mp j',.inl ?_,Linkage,_,Q.sub P,T.sig f,As [Pw,j'],As [Lu,j'],siB.mpr j',h.bindB j',.dict j' B,r.d j' S.N,Akw FP j',BN [Bic,j'],sW.eD j' o l',Ga F,.tuple,"name",Ej Ab,H.heap,.dT T,Agx j' [QA,l',x',y'],G.bind j',Iw j' Nb,EM 3,by rw[j'],Lf id,Cxi 98,Cfl z1,QM u,(e::es),sY j' [An,l'],I.sv j' _ l',_,cl.c f j' l',Got J,De [Agh,j',l',x'],Bip x,tG ..,(Alb),Aks z])
def kkT28:=kkU `([Dz l,yg Oc,R.at_,KP 10,F.one,Ae 32,base.Ns LZ mg,EW Ki,LL Aso,Beu CX,smb j' l' x' ?_ (y'),xb s,AG j,vi P w j' l',Bzu h,⟨j',l',x',?_,y'⟩,(j').bind l',sjJ _ j',AG P,DF j' tb,Cny j' Di,Fh Hj j',SQ Cox j',Jn [Ed,j'],siM [Mv,Ed j'],Cpz j' Bqk,hS la lo j',λP=>(j').all l',FX (BW),Bam x,without l i,SD q,acj j' l' AN,Am j' l' Ab,HQ H_ j' l',CH j' l' AJ,Afx j' l' Fg,Cop j' l' [Cqf,Cpe HW],Jm (Apw),Cnw L,Ex C,Ah<=o,Ah<=p,Bne n,wR X.env.cells Cfa [],some,RS j' B l' st,(Cxf),Core.uj j' l',X.wr.heap.objs.size,fractionText j',e.flatten.map tJ,Core.ev ..,Ld j' [FA,l']])
def kkT29:=kkU `([Binds j' l' x' [],xl c,sbK (j'),max j' 0,λ_ _=>j',by unfold j';rw[l'],(EJ Bf),show j'=l' from rfl,vS N j' l' x' y' E J',Lk.below t j' l',Lk.line l j',Core.vv st j' l',.Compare a j' l' x',backTo j' l',findIn j' Mf l',findBy xu j' l',g.mono I,(zB ..),I.map Aci,i.extBut,if j' then l' else x',An Boh,"factor",s.size j',r.bind f,Aut j' [Lz,l',x',y'],minus j' l',lineText j',M.lookup j',sic [AV,j',l'],Bin [Apn,k],I.cell j' c l',NV AL,isDigit,Gf CQ j',K.In Bg,X.outer,V.int _,C.zip O,C.three,As (vB j'),isDigit j',Lk.name j',LkF.two j',.mk j' [QA,l',x',y'],D.obj 0 j',kindOf,Adp (uc j'),SQ Cf j',-1074,(j').mono (l').fz,Jz Cxg,CB b,NW Q])
def kkT30:=kkU `([e.symm,sq[k]?,sjG Ac,j.name,Bn [AX,j'] l',sbe DM,FC z,F.sx s j',IP j' l' [DA,x'],∀q∈n,j',wg v,FA Air,uj A i,Fc [F_,j',l'] x',Iw j' HW,Kn j' l' [Bao,x'],Akj j' (Fg),this j' q l',AG F,Au v,Au Ah,Gy k,MN d,.join,20000,scope,j.map j',AT [Cn,j'],I.len,a[k]?,Ae BM,Ae JU,NW s,Lb Ash,AF AN,NX 2 2,An Auv,JH Fx,Bok s,Apx W GQ,Aib ch,(2,Aao),Cab DU,EV Aw Aw,Md B' H',.ite (j') l' x',uV l j',Gc EL Dg,Bzq Afv j',Rp.of j',siM [Mv,Ec j'],Bme [Age,j'] l',Coi w,Bxj (Ccq j')])
def kkT31:=kkU `([RL j' [Cfp,l',F,x',y'],X.ex,uA Dt j',LW j' Ad,AT d,HS j' Ab,FJ Ab j',Coa FP j',JI j' FK,PF y j',Azh u,b.getD j' [Ks,[]],QN Cxw j',Bn (-BI) j',Bl (uE j') BI,Aje [E_,j'],zA c,AT a,AC D,(.and j'),Cxp h,Jg j' l' [Me,x'],Px 2 2 j',λj' l'=>Dgk,scM Ar j' l',AT e,AK G,HQ AL j' l',Agh j' Bfk Bfl,PC h,Boq x,Biy j' l' GQ,Aac (ranks l) j' l',xW s l0,.sdm Bf j' l' QL,sam CZ j' Cmt l',[Abr,Aeo j',l',vT m],X.env.cells.lookup j',LkFNeutral.shown j',o3 (a:=a) (st:=st) (c:=vB j') (xs:=l'),Line.uses (j').line,Classical.propDecidable _,FA [Pt,j'],Cxe j' [FA,l'],Shared,known l,a.size,⟨?_,?_,?_,?_⟩,d.cells.lookup y,Paired j' l' x',by rw[j'];show G,.head _,one_pos (K:=K),j'<=2000])
def kkT32:=kkU `([Array j',by grind[ai],sjy _ j',p.pts.length,sF rs j',(j').toArray.size,show j' by decide,NV d,(Bi),s_.next j' [Bz,l',x',y'],"<lambda>",kZ I q j',show j' by omega,xs.length,akv (W:=W) j' m l' x' y' J',A.handled,X.A.units,s.testBit j',.bin j' l' AL,b.map sw,uL.bind h j',AT [An,j'],aL.mpr Ac,C.map MY,Line.uses j',.new BY,show j' by omega,Value.int j' l',(j').filterMap l',le_trans _ j' l' x' y',n.letter,MS Bbi,T.lookup j',x.getD 0 j',driven e j',λ(u:Nat)=>j',s.TypeIs j' l',Line.put j' l',⟨j',_,l',x',?_⟩,tK Mp,AG k,Cpz j' Nc,Sw IL,Cpa scT,"start",isTold l j' l',Ko CT,scx [Fu,j'],AllBare j',zM.mpr j',Binds Ar j' l' x',p.line a j' l' x',Og CT,Kx Aus])
def kkT33:=kkU `([if j' then l' else x',l.map λj'=>l',want 10 j',p.at_ q j',Sn .shr j' l',Bxe HW,An [Fh,j',l'],Cm Bk,Ga r,Bjl q,"bits",S.at_ j' c l',r.at_ i j' l',ownOf i j' l',Auu Ar j' l',Agh .add j' l',Lv j' Apt SE l',m3.len,x.name,aC P.1,kj P.2,S.xA B,Cxe j' [Fc,l',x'],SQ j' [JI,l',x'],∀a∈g,j'\/l',.ext (slK j' l' x' y'),AG l0,Ko Bf,LL [Cpt,j'],sba j' ?_,y.drop j',smc j' ?_,qB I j' l' ?_ x',T.any λj'=>l',.mk 0 j',Ff _,if j' then l' else x',D.nx A j',S.aK Y j',zl DM,S.yK i j',A.xA j' y,Ml j' [FA,l'] x' y',∃a∈l,j',sc7 j' X E,(Hl _),Brz x,IsPart j' l',sQ.gen j' l',S.gh.1 j' l',MD (PD) j',Bfa Coj,Cjo [Cfh,j'],sgf i])
def kkT34:=kkU `([DT (P.2 j' l') x',Auy Agm,xW HI l0,21000,16200,LINES,(Agq),(Alf),Cw _,Baz [An,Bak j'],PN .ne j' l',Awq [BN,Pt j'],[Am,Jl j' l',x',Jl y' J'],by rw[j',l'];simp,l[i]?,e.key,v.num,q.num,u.num,Au [AG,z.2],(by rw[<-j'];show l'),As (.uh l),PJ JB,BN (uu k),Bxu Bbi,[uR.dict (Ame)],(Ccq [Coi,j']),Cu Mi,Aia Cho,sJ dvs ds,Ayx [Bjl,Bev],.chain j' l' x',(II),wX C,Cxo V,Oq Aqn [Aut,.ord,SJ],BN (uu j'),CN Pm Akl,Q_ [Cew,j',l',x',y',J'],Np (λj' l'=>x'),Bdq fd ps,Bds Ahf q,O.all j',D.tup j',N.lam j',(.call j' l'),uS st j',uV Dt j',Ae I,Aj j' Aq,Akj j' AL,HR 94 j',DF j' te,MR H' j'])
def kkT35:=kkU `([Kq Ab j',Azu [Cnz,99,j'],HA j' [i],Bxx i,Bpk st j',Avu (Boo).x Bir,Avu (Boo).y Bis,KA A [M_,r],tW Bas Bas j',Im sM sd,LL [Lp,Bir,j'],LL [Lp,Bis,j'],NC Aw j',Ef j' Bfd,Eu (Lo<=j'),Eu (j'<=Lo),Ajm Ash j',Ajn j' GO,Akp j' l' x' [Bao,y'],Acf j' (.lit l'),w.params,model j' w,.next j',sW N j' l' x' E y',.raise j' l',Fc j' [Pt,l'],dQ j' λl' x'⟨x,n,A,g,U⟩=>?_,.expr (j'),(by simpa using e),DN "BaseException",EK NZ GT j' l' x',λj' H l' x' st y' J' K' M'=>?_,Classical.choose j',λ(k:Nat)=>j',Lk.number j',Lk.lo j',NameKind.free,(Aun).x,(Aun).y,behindInMarks j' l',by rw[j'];show q,if j' then Gy l' else x',I.base.keep b j' l' x' y' J',dA (xs:=j') Ab,f.add j' l' x' u,"__name__",.Constant j' j l',LkF.ints j',.list [FA,j'],Bp j' D.int,le_total 0 j',Bxl LINES,Value.none,(by rw[j'];simp)])
def kkT36:=kkU `([vals1 r,closureFor j' l',LkF.State,Sr (Bar) j',q.trans l,items[k]?,Lk.lines a j' l',Lk.read t,(j').wZ.bind l',e.take k,I.pin p j',sen.getD j j',skI.getD t j',∀j∈l,j'≠l',"letter",DF j' ta,As [As,j'],T.map scA,I.all t4,R.all tu,SK sw j' l',Bl j' [Au,l'],Co [Au,j'],EV Bm j',I.lookup j',A.deeper j',Ld j' [Fc,l',x'],(j').headD 48,λ(j:Nat)=>j',[Pp,j'].all l',Sw FN,Om (tT j' l'),Byy Adg,V.shape,"place",Acf Bf j',A.units,.cmp .ne j' l',saQ j' j l' ?_,(j').filter λl'=>x',q j' H B l' x' _ y' S J',Ce [AT,j'],(j').endLine,alv hs,figure l j' l' x',taken l j',Ft [Auq,j'],by rw[Vx,j',l',x',y'];show J',Oi Z,sbR F x,Bkd [Au,j'] l',so.one,SL.snoc j' l',Iw j' [Cxl,l']])
def kkT37:=kkU `([.ins IN j' l',L2.Inv X j' l' x' y',Aux u.1,FU (tQ j' l') x',Hg j' [Aj,l',x'],X.K.In j',pyNext j',sme j' ?_,sjQ _,Ga x,As [DN,"function"],Apy k,Ky j' Ab Ab,eval j' p,field j' l'>>=x',S.aK l j',sign t j',So BJ j',LY (j').den,Ce [Ly,j'],Hz (j') (l'),AT [AG,z.2],Bbv Lg,Ah<=24,LC Bh,Cgr Bf,Bsm it,AQ a.1 k,"str",Scope,(j').cX l' [KJ,x',y'] J',I.wL j' c l',I.loc,vL i,F.num,akQ Ac,vB Bgk,N0 Bia,AC it,Ga b,AF Dc,As IF,As All,FH xs,BQ fc,Aum Br H,Core.y9 prog m j',Pw (Ame),Apx W Rw,Bio CD,Aqu CD,Avr st,Aia Agi,Bkr JE])
def kkT38:=kkU `([sjX Ey g,Beu Ags,uI rs t,DYADS<=Dh,Agj fe yt,Gp [Baz,j'],GN j' [He,l',x'],V.int j',Dgh (Bnm),∀j':Rat,l',tP o d,Ay 0,Oi _,Alc k,Adp (qu j' l'),NX 2 0,Inv j' pins l' x' y',match(j').line with|.pin _ _=>true|.rider p q _ _=>l'|_=>false,Jg j' l' [Jg,x',y',J'],Aj j' (.dyad l' x' y' J'),MR j' {s with heap:=h',toks:=t'},x.map D.int,t.mask,newNames v j',Sr fraction j',L.scope.names.lookup j',cellsFrom j' l' x',(·.line),(p.at_ j),PyWqapbv.answers j',Lk.hi j',∀{J:Ct}{t:Tower},j',tE j' l' 0 DS,Heap.SameBut j' Bg l',PySem.W.nsIn BS j' l',"__setattr__",Sr Lk.near j',LkF.sidesOf l j',λ(l:List Nat)=>j',items.length,(by let:=j';omega),SeqAt.shaped j',I.base.free b j' l' x' y',I.ok.mod.sc_,jo (W:=W) j' l' x' (y').one,bm.contains (j'),(j').natAbs.log2,PassesOwn NZ j' l' x',show j' by grind,pushCells j' Cfa,vv j' .len l',⟨?_,?_⟩,le_antisymm _ j' l' x',E.map V.int])
def kkT39:=kkU `([Acu lpos.col,toString i,H.heap.get? j',builtinsNs,by simp[j',l',x'],Bxe [FA,j'],by rw[UZ];show j',show j' by grind,Value.bool j',A.sv.fresh j',G.contains j',isDyad i,R.mono q,show∃j',l' from r,L2.start N j',DN "type",σ.length,Str.empty,ps.length,defaultsOf j' l',l0.map MY,l.trans I,Ae BE,CO sH.add,.UnaryOp j' a l',together l j' l',Ld .abs j',(by simp[j',l',x']),Decidable j',(j').ur.length,alG (l:=l) j',r.flatMap j',saQ j' Ab (x:=l') x' y',en.getD k j',vS.mono j' h,slT u,∀x∈f.xL,j',then_ ..,r.bind [KA,j',l'],h.extBut _ j' l' x',l.extBut _ j' l' x',Paired.qv j' l',Q.so.one,A.letter,n.number,N.number,L.params,B.take n,(by rw[UM,j']),∀{k:Nat},j'->l',acj (x:=j') l' x' AN,h.MapOf j' d l',[Pp,j'].map l',S.each f j'])
def kkT40:=kkU `([alu hs,∀p∈T,∃j',l',B.set j' Ad,Cqf [EM,32],(j').cps.size,Core.sM,.seq j' n,notedBy j' A l' x',AZ 3,CM j' st,if j' then l' else x',starEach j' l',backToKw j' l',Line.pin j' l',V.ref a,p.dyads,FX Iv,Bic ρ,An Ht,Cod .Add,Du e,JH (sA j'),Bzs j' ρ,sjM.mpr j',A.under j',wE.mpr j',I.trans j',Dm [Cfm,j'],.ao 2,CW xs,Ob Ah,f DM,start N j',F.mlt s j',smf Ab,L.at_ _ j',Ga q,HV Ab j',M_ t,Gf AL 0,Fu x,Bbs .shl j',Awc 0,Awc 3,"dict","text",m.line a j' l' x',Jx 10,SW [Boj,j'] l',MH j' [Ec,l'],inverse j' l',d.heap,C.size,R.size])
def kkT41:=kkU `([smg j' [Bz,l',x',y'],skM Ac,AC [La,j'],Jy d,Ga k,M_ l,Bx G,Agx [F_,j',l'] x',Ciy [Ccb,j'],Aja 900,rI j' [Mv,Ec l'],GL (t8 j'),sfy hs,.of G,Ae [Cxr,j',l'],Au AH,Aje [CO,j'],Hn j' l' apos,NX 0 0,MF Aiq,pyIter j',l.take j',.range j',F.mono j',.of_wp j',Ga n,DT (l0 j' l') x',As (scK j' l' x'),Cxt j' [Eb,l',x'],Fv h,Fv [Btb,j'],Buc [KJ,j',l'] x',Meets j' (l'),(j').fdiv 2,(j').turn k,ut Gb,F.sn s j',t8 MU,word w j',S0 o t j',Fv [Ib,j'],G.xA j' y,FA [Bap,j',l'],(j').isNone,.fdiv,.band,S.one,MO.n6,other,stack,Abt q.text,(j').head?,pv W,smh j' AN l'])
def kkT42:=kkU `([AT s,Cwi t8,Amr Ac,Fb abT,Bx z,B_ z,Avt .all j' l' x',BQ Nr,BQ Nt,M.len,F.len,J[i]?,tI dv,tI JR,vB HI,amt Ac,adf AN,io DI,Ae Aa,AZ Bco,BH [],Acg Byi,AI z1,AI Nr,AI Nt,Ci Bon,As Amm,JD Mi,Ma [],e.getD j' (0,l'),[Cfi,Agm].elim,Aib RD,Aib Ayz,Dm GD,Aji lo,Ajj JN,Ld .len j',Su B H j',λ(d:D)=>match d with|.int z=>z.toNat|_=>j',PySem.W.keepIn j' (l'),∀(s:Shared)(H:Hp)(C:Addr)(r:Eg j')(A:l'),x',Got.next j' _,sbi j' l' isX,(by unfold j';omega),h'.get? j',match i with|.next A=>j'|.ret d=>l',slV.getD j' 0,Builtin.SmallTypes.nextOf j',.builtin "type.__call__" j',aaO (K:=K) (a:=j') (b:=l') Ac,"tuple_iterator","StopIteration",ρ.set i j',bootBuiltins x])
def kkT43:=kkU `([keywordEach [] j',S.var j' x,JB|||Boi,PySem.W.CodeHd j' l' x',Bba DictEntry,Acu lpos.line,X.env.kindOf x,rL (tk:=m.toks) A j' l' x' y',(by grind[tr]),X.base.get? b,PySem.W.typeIn j' l',f.ur.map xb,Apm "dict" [Pw,#[]],by rw[UM,j'];rfl,Q j' {s with toks:=l'},f.xL.map tI,I.base.there b j' l' x',s'.heap.get? j',Heap.ExtBut j' l' g,by simpa using j',PySem.W.envX j' l' AR x' y' J',by let:=j';omega,I.ok.frames,λp:D×D=>j',Ec (-j'),seB (name:=Aps "__next__") j' l' x',V.item H,LkF.Answer,Bhz AL (j'),d.kindOf y,dif_pos ex,p.down j' [Cxy,l'],by unfold j';show l',(nomatch e),sdZ (t:=t) hs j' l' x',Value.type j',show j'=l' from n,Eg PyData,Ff Af,by rw[<-j'];show l',ys.length,E.endLine,"divisor",Amd (l.drop j'),∀p∈cl.τ,j',by rw[Tr],Apm j' [MN,l'],by rw[Tc,j',l',x'];show y',xF cl j' l' st,j'->JH Baq,λh=>JA j' Ac,tupleKind j',akM (K:=K) j',cl.τ.all j'])
def kkT44:=kkU `([pos.line,sW.mono l j',p.off b j',(Aha).In j',by rw[j',l'];show x',i.toList,c.isList,k.map kV,P.turn k,p.more v,D.map MY,scI.mp h,smi [FC,j'],i.extBut _ j' l' x',v7 (j') st l',r.append j',fraction j',.neg QL,against t j' l',wholeBy A j' l',Aj (p.up j') l',BH BY,BH Ago,NV Bf,Aft Chc,Bxl tr,Alx (-1),Byy Bry,.inr ?_,(·<·),Lk.Name,by rw[<-j'],lt_iff _ j',L.getD k j',f.grow q j',DO.bi Ab j',r.getD j' 0,alE (may:=j') _ l' x',Akz j' [Oq,l',x'],I.ok.wu,.func u,(by rw[Vt,j',l']),EM 48,JH Line,Og Bf,Blw IE,BU Line,Bpt JE,RH 65,E_ Aq,I.ok.sc0 x j' l' x',Ga [Au,j'],Dq [Ci,j'],BN (ut j')])
def kkT45:=kkU `([BN [CW,j'],AQ (tK i) j',Sum.inr j',sfk.mpr j',Lk.near j',S.there j',Z.trans j',Core.zb j',zj Ac,DK (J vs),alH hs,Lf Cev,Aps "/",Ce Bbh,Cxi 69,SK D.str j' l',(j').next _,Bps j' l' IS.ok,Amd Cyi,λ(b:Nat)=>Apn b,Lw Asq 2,(·.2),"join",V.uses,this.1,"word",Core.E,"self",F.set a j',Om [GF,j'],∀b∈ch,j',∀b∈fp,j',hc.2.2,ai Ag,I.base,I.cell,o.dict,X.zE E,i.kind,I.body,r.on 1,skM Do,p.up e,siD[f]?,Au Avp,BH [Arc,j',l'],Apn Asg,gM Ac,Cfl z2,Bjy Dgg,Chi FAR,H.at_ l Ac,Cjb [Aj,j',l'],.Return j' l'])
def kkT46:=kkU `([getItem j' l',BH [Cxl,j'],Bp j' .bl,Ce [Bic,j'],Adp [E_,j'],E_ (h j'),kindOf j',zC e,u7 e,uJ IA,L2.sU H j' l',Hq [Qw,j',l'],Hq [Afp,j',l'],Coc AR,BN CL,OD [Ahd,j'] l',Bki .max j' l',(j').heap.objs.size,ev cl j' l' st,"BaseException.__getattribute__",I.turned (t':=s.toks) j' l' G x' y' J',R.getD j' 0,Bib prog,swapsWith j' l' x' Di,B.names,Au (j').den,PyFlat.played LkFNeutral.step j' l',As (.ao j' l'),(λj'(e:none=some j)=>nomatch e),PyFlat.calls PyWqapbv.shape j' l',{s with heap:=g,toks:=B},doubleBits j',(show j' from r),match j' with|some x=>l'|none=>x',"Exception.__new__",sign FP j',(j').num.natAbs,"__getattribute__",PySem.W.hasDictIn K j',Hv (ev j' A l') x' y',X.wr.heap.get? b,MN sX.toArray,(y.map (-1*·)),λv j'⟨x,n,A,g,U⟩=>l',s.heap.FunFrames j' l',PySem.W.codeIn K j' l',vo List.length j',x.map MY,Q.lift.sub (j').lift,by unfold j';grind,SI L M j',∀{B H st x y v u Q},j',i.toArray.isEmpty,GW (M.map (·.2))])
def kkT47:=kkU `([(top.map (z*·)),RelV j' v,dQ j' λl' x'⟨n,A,U⟩=>?_,PySem.W.plainGet K j' l',sw {x with name:=j'},ExcBaseFacts j' l' initId x',I.ok.aN.mem T,"tuple.__mul__",jQ (f:=length_) j' λl'=>x',.FormattedValue j' l' Ad x',f.bits.map Avy,sc.names.lookup j',⟨?_,?_,AE⟩,.idx j' AL,yC.says (k:=-j') l' ?_,codeAmong j' (l').toList,PySem.W.clsIn K j',OfNat.ofNat n,(j').flatten.length,(by change j';omega),(by simp_all),∀(o:sd)(d:Nat),j',l.zipIdx.take j',"divided_by",Ff Aa,(by unfold j' l';omega),assignEach j' Di,{nx:=λ_ j'=>l',rt:=Q},v.map (·.2),let⟨v,U,R⟩:=j';Am l' x' y',AF [Bxl,j'],by change j';grind,SQ Iv [Ce,j'],br (i:=j') (st:=o),gW (i:=j') (st:=o),Except.ok _,Cnx Hf,Option.none,PyData.eqvAll j' l',"Exception",br (i:=j') (st:=Jm l'),(by rw[j'];show l),(by rw[j']at l';omega),o.ExactDict,f.xL.take k,(by rw[Wx]),by change j';grind,D.str OG,z.take _,"how_many",B.contains (j'),(by simp_all[j']),by let j':=l';grind,(by let:j':=l';omega)])
def kkT48:=kkU `([Value.str x j',IsTup.new _ j',le_trans _ j' l' x' ?_,mN j' (l:=l) Ac l',if j' then Gy l' else x',le_refl _,f.get O,show j' by grind,h.push [Apm,j',l'],ym (·|||·) j' l' x',List.zipWith j' l' x',l.findIdx? j',show j' by rw[<-l',<-x'],[uR.dead],I.ok.has _ j',I.ok.glob,show j'=l' from f,st.take n,An (l.filter [Aar,j']),sax cd.mro,Bp j' (i::·),An [Cxn,j'],wpAny_Name j' l',E.length,(·<=·),D.length,so.three,sA.ok.inj j',nn.toNat,"origin","append","extend",(j').symm.trans l',"length",AZ [Cn,j'],i.val k,zeros n,⟨j',l',?_,?_⟩,(smj ..),C.toList,I.base.slot b j' l' x' y' J',p.isList,U.isList,lastMarks [j',l'] x',h.typeIs,show j' from Aq,d.locals,k.map Bon,show j' from Aq,J.all yp,List.set j' l' v,sdU.mpr [Aj,j',l'],alx (t:=t) hs j' l' x' y',l0 (x:=Gy j') l'])
def kkT49:=kkU `([hanging l j',I.mono (j').fz,s.map Aci,l0.extBut _ j' l' x',sio c ?_,J.getD j' BM,prog f,L2.RelV j' u,slY.getD c j',DR S.len,Lf "len",NB N j' a,∀(k:Nat)i,j',.ao 3,smk (show j' from ?_),DD PM,NV Bj,NV BJ,Aft Bzi,EM 99,Bxe Nb,Ej AE,Nk 73,Bow Bev,Bjs Ag,Bke Aif,Bqo Ava,Asa 77,Brw Ahg,Axk 96,Aqt N j' v,Bmb Fe,3000000,f'.bits,w.head?,r.head?,Core.uF,sQ.ints,ob.data,Ay 256,I.ok.bs b j' l',isTrue j' Di l',A.depth,P.zip J,I.laid j' Do l',sJ.agW r,l.any [Aar,j'],nameOf L j',S.gh.2 T j',.Raise j' Ad l',p.down G j',Cw [Np,#[c]],Acg Dgl,Ej Ad])
def kkT50:=kkU `([by rw[j',l',x'];rfl,by unfold j';rw[l',x',y'],BN Agq,Bjd [Bjb,c],Bqp j' sH.add l',Adp (uQ j'),Adt 11,Axm CT,λ(n:Nat)=>j',(zk b),⟨_,j',l',?_⟩,sh_ [AV,j',l'],DR [Adp,j'],As [Ff,j'],Ay (xE j'),Fb yi,by unfold j';rw[l',x',y',J'],BN (.sG j' l'),BN (pD j'),Agt [Apn,j'],DA (tI j'),Byt [Dgc,j'],De [LA,j'],Lw Asq 1,Lw Asq 0,λ(c:Nat)=>Apn c,.local,sbG r,show j' from Jt Aq,⟨j',l',?_,x',y',J',Ab,?_⟩,Jx 12,Jy [],Fw Bt,GA Af,Dq Cfx,Ahp Ax,JX [Bak,Hf],D.mapM (Cpm),W.getD j' 1,(j').map .int,foldedSetIterable j' l' x,.zS j' Bf [FA,l'],double.round A j' l',(match j' with|some (.obj O I)=>l'|_=>none),PySem.W.instObj C j',binaryOp j',_,match Lk.line j' l' with|.error e=>x'|.ok (i,q)=>y',sbK (m:=Builtin.Tuple.tupleExact j') l',{cls:=j',dict:=f,data:=.seq l' x',slots:=y},word j' CD,I.ok.above,floor t j',if j' then l' else if x' then y' else J'])
def kkT51:=kkU `([match j' with|some C=>l'|none=>AJ,match j' with|some I=>l'|none=>AJ,match j' with|.error e=>l'|.ok k=>x',.xB j' l' [FA,x'],∀q∈N.tb,∀r∈N.tb,j',ei (t:=t) (k:=j') (j:=0) l',vz f W j',by simpa using h,p.cells.lookup y.1,match j' with|some l=>v7 ..|none=>l',match j' with|some I=>zW ..|none=>l',An [EN,k],(u9 z1 (z3.map (-1*·))),.comp j' l' 99 (x'),MV j' IS.ok,"itertools.zip_longest",match v with|.int b=>j'|_=>AJ,match x.1 with|.int z=>j'|d=>d,Ld .ord j',(l.map (·.length)).sum,(match j' with|some (.int a)=>l'|_=>x'),DN "method_descriptor",(dv.map ((u:Int)*·)),match j' with|some J=>l'|none=>AJ,p.pts.map Vec.lift,"itertools.pairwise",Core.uj ρ,As (PySem.W.methodObj j' l'),DN "AttributeError","dict_itemiterator",match b with|true=>j'|false=>l',bP (K:=K) (a:=0) (b:=j'),(by rw[j'];show True.intro),Arp [Co,j'],(cR (st:=o) (l:=l)),∀(k:Nat)(c:Ao)(j:Nat),j',X.base.BuiltinsAt Fp j',Hg (aL (K:=K) (a:=j') (b:=l')) x',concat_meets j' l' x' seq_tuple_add y' J' K' M' O',(j').set j (l'),(by simpa using T),(by simpa using h),∃(o:Obj)(i:Aae)(n:Nat),j',PySem.W.WData.int,I.mod.glob.keeps (j').bk,Bih [Cnz,70,j'],by grind[Core.uj],(j'==("__debug__":BG)),"odict_iterator",base.BuiltinsAt mg j',∃(u v:Nat)(c:Bool),j',LkFNeutral.asked1 j',X.env.scope.kind,Hu (a.toList.drop j') l'])
def kkT52:=kkU `(["__classdict__",wpAny_dictEpoch j' l' ?_,Auw (wpAny_letGo j'),∀(a b:Int)(s:Nat),j',LkFNeutral.asked j',l.takeWhile p,DN "NameError",(x.map (z*·)),(show j' by kernel_rfl),s.heap.IsSliceOf j' l' x' BM,wpAny_rule [Ib,j'],wpAny_execs_nil j',∀y∈scope.names,j',ForInStep.yield j',s.heap.NoLimit,PySem.W.findIn BS j' l',(by grind[uq]),by simp;omega,"list.append",NameKind.cell,let⟨c,m,U,R,t⟩:=j';l',"__getattr__",jQ (f:=Lk.near) j' λl'=>x',Classical.choose j' l' H x',Builtin.bitNot j',Nat.not_lt.mpr j',λu j'⟨y,j,G,P,R⟩=>l',c.map D.int,by rw[Tf];rfl,PySem.W.Frag,apos.endLine,"bit_length",".<locals>.",Str.ofString,PySem.W.isFn K j',H.add j' Aad l' x' ?_ ?_ ?_,by change j';omega,Value.builtin j',by simp_all,by grind[uA],by grind[sQ],l8 V.good,p.pts.map _,Cu sX.length,(j').text.takeWhile l',D.TOi2.symm,fd.qualname,∃(i:BA)(n:Nat),j',λ(v:Nat)=>Apn j',∀(w:Ak)(c:Nat),j',s_.ite j' s_.err,by rw[j'];show n,by rw[j'];show A,(by rw[j'];show hF)])
def kkT53:=kkU `([letOwnedTupleGo j' l' x',S.nd.sublist j',λ(x:List Nat)=>j',Lc [Cn,j'],LY [Cn,j'],I.base.free,bindArgs j' [Ks,l'],∀x∈f.bits,j'<=l',sjR.mp e,sW.opt h,sml.mpr ?_,D.TOz.symm,D.i1z.symm,(Shared.heap j'),PyData.eqv d j',λ(n,k)=>if j' then l' else x',setFlight j' Ad,(by rw[j'];decide),(by rw[j'];show T),l.filterMap j',{N with heap:=j'},N.heap.push j',∀y∈B.names,j',PyFlat.told j',p.kindOf x,toString p,PySem.W.InstAt j' l' x' C y',yT ?_ Cyk,g.map MY,isCrank i,PylongRoom NZ j' l',hE.mono l1,n.lookup b,_,X.env.qual,X.env.code,Ci strOf,Ala this,by change j';simp[l'],PySem.Within j' l',fs.length,vs.length,cpos.line,st.typeIs,Arguments,(·^^^·),eX (K:=K),bP (K:=K),bs.length,"numbers",env.frame,us.length,"answers","figures"])
def kkT54:=kkU `([sliceBounds lo j' l' x',⟨f.add j' l' x' y',?_,?_,?_,J',K',M'⟩,l.all [Aar,j'],saQ j' Ab (x:=l') x' ?_,G.ext j' D.i1z,m.ext j' D.l1z,by rw[j'];simp,by rw[<-j',l',x'];omega,QN (h.update j' l') x',g.sv.fresh j',U.of_keeps j',by simp_all[j',l'],storeName Di j' l',I.base.vk,I.base.uC,I.base.uZ,show j'∈l' from z,show j'∈l' from Y,I.ll o,scE ex,typeIs_int j' l' t,S.bv M,A.yK a,by rw[Tu,j'];show l',by rw[Tg,j'];show l',by rw[j',l'];grind,Baw sr,by rw[j',l'];omega,Aar (j.getD j' l'),S.length,«leaving» j' l',"sorted",67108864,⟨j',?_,?_,?_,l'⟩,zB ..,LkF.TEXT,"square","divmod","longer",l.modify k j',alY (x:=Amm) j',lineText l j',Bp [Boj,k] j',SW (newNames j' l') x',(j').bits.length,j'->∀{x:Num},l',h.DictOf Aoq j' l',l.toList,yN Ag,r.inj F,inplaceOp J j' l',I.typeIs,l.locals,a.map MY])
def kkT55:=kkU `([b.map MY,d.gcd x,M.map Aci,p.up G,AT [Aqa,GS],Fb sT,Dz this,Byy [AZ,4],Bih [Asa,12],Dct [Caa,B],.ite j' l' .nil,p.at_ i,NameKind,by simp_all[j'],.zS j' Bf BY,match x,y with|.tup C,.tup O=>j'|.lst C,.tup O=>l'|_,_=>AJ,Bxk By BD,LV AL (j'),match i.line with|.pin _ _=>true|_=>false,lineText L j',VL.counts l j',by simp at j',(vO (2^f.sq.length) (y.map (z*·))),{cls:=j',data:=Qy l'},(match j' with|.ok d st=>l'|.err x st=>x'|.stuck=>y'),yC.made I j' l' ?_,∀(s:Shared)(H:Hp)(C:Addr)(cl:IG)(A:j'),l',∀(i j:Int)(t u:Tok)(s:Shared)(Q:j')(E:l'),x',Hd.H1 P,match Agn j' with|some o=>l'|none=>false,(λ_ j'=>nomatch z),match x with|.fn f=>j'|.sG f J=>l'|_=>AJ,"dict_reverseitemiterator","dict_keyiterator",(match o with|none=>j'|some (x,y)=>l'),match o with|none=>j'|some _=>AJ,(match o.cls with|.type "list"=>false|_=>true),match i.line with|.crank p _=>j'|.dyad p _ q _=>l'|_=>false,(match p with|.Call (.Name x _) [a] [] _=>j'|_=>false),∀(S:D_)(s:Shared)(D:St)(H:Hp)(x:V)(C:j')(v:Value)(W:l')(Q:VK),x',l.take i,((dv.map ((u:Int)*·)).map (-1*·)),(by size_fits),match j',v with|some (.lst C),.lst O=>l'|_,_=>AJ,match Ax with|.obj 2 [_,_,_,.tup b]=>j'|d=>d,match Fu j' with|.crank p _=>l'|.dyad p _ q _=>x'|_=>false,I.call (h':=f) (g':=g) (d':=d) (t':=t) (ch:=j') l' x' [PQ,y'] J',∀(i:Nat)(pins:D_)(s:Shared)(σ:St)(H:Hp)(E:j'),l',match j' with|some (.obj _ [_,.int z])=>l'|_=>0,match Ax with|.tup [.int a,.int b]=>j'|d=>d,match Core.zb j',l' with|some I,some (v,T)=>x'|_,_=>false,Builtin.SmallTypes.ownedTupleIsFree j',(match p with|.For w Z Y [] _=>j'|_=>false),(top.map (((2^UB:Nat):Int)*·))])
def kkT56:=kkU `([((j.map ((s:Int)*·)).map .int),match O with|.Name x _=>Bxx j'|_=>false,"read_crank.<locals>.<lambda>","read_rider.<locals>.<lambda>",Builtin.Dict_items.ownsTuple Cyb,λ(p:D×D)=>match j',l' with|.int i,.int b=>x'|d,_=>d,{D with nx:=N,ct:=N,bk:=D.nx},(fd.params.args.map (·.arg)),"read_dyad.<locals>.<lambda>",(match o.data with|.func u=>j'|_=>false),∀(S:D_)(s:Shared)(A:St)(H:Hp)(D:sbz),j',match x,y with|.int x,.int y=>j'|_,_=>AJ,by match x,h with|[a],_=>grind,match CS with|some i=>j'|none=>false,F.args_tuple_iterator_next_1 _,Lf "type.__getattribute__",match j',l' with|some x,some y=>As x'|_,_=>none,Builtin.«tuple.__mul__» [Ks,j'],F.slot_dict_keyiterator_iter,sjg (T:=j') (b:=true) l' isSubtype_stop x',(by grind[pastItsLine_dict]),(List.zipWith (·+·) x y),(match j' with|some (.lst C)=>l'|_=>none),(match O with|.List P _=>j'|_=>false),bP (K:=K) (a:=z) (b:=0),F.entry_tuple_iterator_next,match kindOf j' with|none=>l'|some (_,w)=>x',PySem.seqSlot_of (T:=Afv) (name:=j') (id:=l') x' y',slot_list_getitem.lookup,match j' with|some (.var i)=>l'|_=>false,I.laid (t':=s.toks) (o:=HJ j') l' x' ?_,match Ave j' with|.error e=>l'|.ok (i,q)=>x',(tY σ (l0.map (·.2))),by grind[Builtin.bitNot],∀(S:D_)(s:Shared)(D:St)(H:Hp)(Q:j'),l',Around.frames_deeper [Ahv,j'],∀(r l:Linkage)(a k:Nat){t:Ak},j',joinParts_cons (j'),F.slot_tuple_rmul.lookup,g.mod.nolimit.keeps [MF,j'],match x with|.int i=>j'|_=>AJ,match R with|.nil=>JI j' l'|.cons _ _=>x',match j' with|some (.lst C)=>l'|_=>AJ,Builtin.List.listTooLong j',(x_ A (v.map (·.2))),A.laid (t':=m.toks) j' Do ?_,match j',l' with|some x,some y=>x'|_,_=>AJ,Dah (FormattedValue_plain j'),"str_ascii_iterator",_,⟨?_,?_,?_,?_,?_⟩,Builtin.Slice.slicePlaces j' l' 1,match Ax with|.str [c]=>j'|d=>d,Builtin.Int.intBits i])
def kkT57:=kkU `([∀{l:Dl}{J:j'}{i:Nat}{f:Str}{v:V},l',F.slot_enumerate_next,F.slot_int_bit_length,formatField_int_small Ac j',wpAny_madeBy_exc c ?_,Fb List.length_zipIdx,Array.getElem?_eq_none j',Int.ofNat_dvd_left.mpr j',PyWqapbv.answers_asked j',Nat.lt_two_pow_self,by simpa using I.len,by simpa using G,show s.heap.IsTuple j' l' from p,F.args_zip_next_1 _,{B with names:=B.names.map j'},match Coi j' with|.ok (_,q)=>l'|.error e=>x',let⟨_,e,_⟩:=x;PD,by let:=r.dp;omega,by let:=r.un;omega,Nat.le_div_iff_mul_le j',PySem.W.hideAll_none _ j',X.wr.heap.FunFrames DH j',Int.max_eq_right Ac,S.slO.names.lookup x,Heap.get?_none_of_le j',∀(n k:Nat)(A:sM)(o:sd),j',Builtin.Slice.sliceAdjust j' l' 1 x',Nat.div_mul_le_self u j',b.map Vec.lift,Ae .globalImplicit,(by simpa using G),Hy j' Array.append_assoc,wpAny_handled ?_,(z3.map (-1*·)),{x with name:=N},"tuple.__rmul__",wpAt_of_wpAny ?_,PySem.W.of_hideAll _ j',λv j'⟨x,n,A,g,F,U⟩=>?_,λj' l'⟨C,n,A,r,z,q⟩=>FY x',match GS with|[]=>j'|c::l=>l',jQ (f:=fraction) j' [E_,l'],LkFNeutral.natural z j',LkFNeutral.nats g,F.entry_tuple_mul,F.args_tuple_mul_2 _ j',Code.quiet_builtin _ j',(by rw[<-j'];grind),Ays us.toArray,Calls.Constant_str j',{s with heap:=j',toks:=B},{s with heap:=g,toks:=j'},(fs.map (·.1)),{s with heap:=j',toks:=d}])
def kkT58:=kkU `(["list_iterator",by simpa using M,by grind[cranks],by grind[nameOf],PySem.W.plainOver K j',F.slot_dict_iter,wpAny_fieldsOf Z j' ?_,e9 (a:=o.length) Em j',PyWqapbv.shape p,F.entry_zip_next,sQ.int_inv z,wpAny_assign_Name j',Builtin.Range.rangeSize j' l' x',Heap.Ns1.of_empty j',recursionLimit,Calls.spliced_nil j',"str_iterator",(y.map (z*·)),LkFNeutral.callOf j',PyWqapbv.whole,let⟨o,e,r⟩:=x;j',(j').scope.isCoroutine,(j').scope.isGenerator,wpAny_loadPart j' [Ib,l'],PySem.W.cellsFrom_some _ j' l' x',n.map V.int,Int.ediv_le_ediv Y j',Int.ediv_nonneg j' Ac,_,match(j').findIdx? l' with|some k=>x'|none=>y',amN (l:=l) (i:=i) j' c,F.slot_int_rmul,I.type.here [Ib,j'],sbD (first:=[]) (h₀:=X.base) j' l' x' y' J',X.env.blockKind,arU (P:=P) M,(by grind[FAR]),(by rw[j'];simpa using e),(by simp;omega),jf (l:=l) Ac,PySem.W.handedIn j',PySem.W.any_some j',"__getitem__",tV (i:=j) ?_,Nat.min_eq_right j',PySem.W.makesIn K j',Walks.list (A:=X.A.in1) ND j' l' x' y',G.symm.trans e,am one_pos,∀(c:Num)(u:Tower),j'<:+t->l',List.map_id Gb,r.head.bind Awo,Nat.succ_pos _,s.heap.IsTupleIter _ j' l'])
def kkT59:=kkU `([PySem.wpAt_bind (j'),by rw[j'];show I.len,(by grind[oT]),by rw[Wx],vo Array.toList j',Builtin.bitAnd i j',Builtin.bitXor i j',λW j'⟨v,n,A,r,q⟩=>l',λW j'⟨v,n,A,g,U⟩=>l',z.keeps x,A.in1.handled,match xC j' l' with|some T=>x'|none=>y',uR.lst (Apw),sq.map tI,dE (l:=ld) Ac,dE (l:=lt) Ac,x.length.log2,DO.yes Ab,u4.trans u5,by rw[j'];show M.sV,by rw[j'];show h.vK,(by show xU),An (l.flatMap j'),(by obtain rfl:j':=r;rfl),Hg (aL (K:=K)) j',Axw Value.bool,match p.1 with|.int z=>j'|d=>d,PySem.W.findIn K j' l',r.mono Z,I.ok.hd L,Lf "object.__setattr__",LkFNeutral.step s j',(show j' from P),(match p with|.Expr (.Call (.Attribute (.Name x _) f E) [a] [] u) _=>j'|_=>false),Cxh Core.vv,PySem.W.emptyDict,match i.line with|.pin x y=>j'|.crank p r=>l'|.dyad p a q b=>x'|.rider p q u v=>y',match i.line with|.pin _ _=>true|.rider p q _ _=>j'|_=>false,∀(S:D_)(s:Shared)(D:St)(H:Hp)(x y:V)(v u:Value)(Q:VK),j'])
def kkT:Nat->kkS|0=>kkT0|1=>kkT1|2=>kkT2|3=>kkT3|4=>kkT4|5=>kkT5|6=>kkT6|7=>kkT7|8=>kkT8|9=>kkT9|10=>kkT10|11=>kkT11|12=>kkT12|13=>kkT13|14=>kkT14|15=>kkT15|16=>kkT16|17=>kkT17|18=>kkT18|19=>kkT19|20=>kkT20|21=>kkT21|22=>kkT22|23=>kkT23|24=>kkT24|25=>kkT25|26=>kkT26|27=>kkT27|28=>kkT28|29=>kkT29|30=>kkT30|31=>kkT31|32=>kkT32|33=>kkT33|34=>kkT34|35=>kkT35|36=>kkT36|37=>kkT37|38=>kkT38|39=>kkT39|40=>kkT40|41=>kkT41|42=>kkT42|43=>kkT43|44=>kkT44|45=>kkT45|46=>kkT46|47=>kkT47|48=>kkT48|49=>kkT49|50=>kkT50|51=>kkT51|52=>kkT52|53=>kkT53|54=>kkT54|55=>kkT55|56=>kkT56|57=>kkT57|58=>kkT58|59=>kkT59|_=>.missing
def kkX0:=kkU `(by(skip;skip;obtain⟨j',l'⟩:=x';by_cases j':l';obtain⟨j',l',x'⟩:=y';cases h;rw[j']at h;show Aj j' l';let j':l':=rfl;obtain⟨j',l',x',y'⟩:=J';obtain⟨j',l',x',y',J'⟩:=K';skip;skip;split at h;show sbK (j');show Am j' l' x';let j':l':=Aq;cases e;show AO j' l' x' y';rw[j']at this;unfold j' at h;rw[Td,h,j'];skip;(let j':l':=λx'=>y');skip;split at j';skip;show AK j';unfold j' at l';dsimp only;skip;rename_i j';skip;constructor;skip;show h.elim;generalize j'=l' at*;skip;let h:j':=h;show Bw j';skip;skip;show this;(rw[AF j']at l'|-);skip;skip;show DL j' l' x' y' J';rw[j']at e;(let j':l':=λx' y'=>J');(rw[Av j']at l'|-);rw[Th,j',Ab];obtain⟨j',l',x',y',J',K'⟩:=M';rw[j']at G;show JA j' l'))
def kkX1:=kkU `(by(rw[Tp,_,j',l'];skip;let j':l':=AE;(rw[j']at l'|-);cases R;show FY j';rw[T',(j'),l'];simp only[j',csAll,l',x',y',J'];rw[Te,j',l',rfl,zM.mp x'];cases r;cases m;obtain rfl:=j';rw[Td,e,j'];skip;subst e;rw[j']at U;obtain⟨j',l'⟩:=x;rw[Th,_,j'];obtain⟨j',l'⟩:∃x',y':=Aj J' K';obtain⟨j',l',x'⟩:=h;rw[Tu,cE];rw[TN,(j')];rw[Tj,j',g,rfl,l',anx x'];rw[Av j']at l';simp only[j',csAll,l',x',y',J',K',M'];rw[AF j']at l';simp only[j',csAll,l',x',y'];skip;simp only[j',l'];rw[Vk,j',D,Q];rename_i j' l';rw[Tx,j',l'≠x',y',J'];rw[Td,z,j'];intro h;rw[j']at q;obtain⟨j',l'⟩:=h;rw[VC,j',csAll,l'];show yC.says I ?_;simp only[csAll,j'];simp only[j',csAll,l',x',y',J',K'];generalize j':l'=x' at*;apply ts.ext';obtain⟨t,rfl⟩:=m;rw[Uq,j',q];rw[TM,Bxf (j')];rw[Te,u,j',l',x'];show aev Ab (j');skip;let j':l':=MT;(let j':l'=x':=by rw[y',J']);rw[Tg,AF j'];rw[Vg,D,Q];obtain⟨d,rfl⟩:=R;intro p Y))
def kkX2:=kkU `(by(rw[Td,G,j'];dsimp only at j';show G.elim;obtain⟨j',l',x',y',J',K',M'⟩:=O';cases this;rw[Tg,si];rw[Xe,j',l',h];rw[Ua,Ab,j'];rw[Tc,G,z,j'];simp only[j',csAll,l',x',y',J',K',M',O'];rw[XU,j',l',A,x',r];rw[Wh,L,C];simp only[j'];rw[Tk,j',l',rfl,x',y',J'];rw[si,si]at j';rw[xz,si]at j';rw[Tg,Av j'];rw[VM,j',AE];simp only[j',l',x',y'];rw[VC,csAll,j',l'];rw[Tp,j',Ab,l'];rw[Vw,h];simp only[si]at j';obtain⟨j',l',rfl,x',y'⟩:=h;rw[Tj,j',l',x',y',I.tuple J'];simp only[j',l']at x';rw[WM,j',l',rfl,x'];rw[Tj,j',l',x',y',I.list J'];simp only[j',l',x'];obtain⟨j',l',x'⟩:=U;(let j':l'=x':=by unfold y';rw[J']);subst this;rw[Tc,j',l',jQ (f:=x') y' λJ'=>K'];rw[Tu,cS];change Baz j';rw[Th,j',DC];skip;skip;obtain rfl:j':=l';obtain⟨j',rfl⟩:=r;simpa using this;obtain⟨j',l',x',y'⟩:=h;rw[Vs,j',csAll,l',x'];rw[Tc,j',rfl,l'];generalize j':l'=x';obtain⟨j',H⟩:=i;show s_.err;rw[Tc,j',l',A.gl x'];rw[j',l']at this;rw[Uv,Bw j'];rw[Th,Ab,j'];change Bkc j' l';obtain⟨O,j',l'⟩:=T;skip))
def kkX3:=kkU `(by(show F.elim;rw[T',Dgi j',yW];generalize j'=l';skip;simp_all[j'];rw[Ul,anw j'];(let j':l'<=x':=by rw[<-y'];show J');obtain⟨j',l',q⟩:=M;obtain⟨j',l',rfl,x'⟩:=r;obtain⟨j',l',x',y',J'⟩:=U;rw[Tc,j',l',sl9.mp x'];(let j':l'=x':=by rw[y',J'];rfl);rw[Vs,csAll,j',l',x'];(unfold j' at l'|-);rw[Ul,Cm W];(rcases saf.mp j' with h|h);show Ro.wide (d:=j') l' x' y';(rcases j' with q|q);unfold behind;cases i.line;let j':=S.three;rw[VC,j',um,tO];(rcases j' with⟨l',x',rfl,y'⟩|⟨J',K',M',O'⟩);rw[Vm,csAll];obtain⟨j',l',x'⟩:=Y;obtain⟨j',l',x',y',J',K',M',O'⟩:=U;rw[VR,rfl,j'];skip;obtain⟨j',l'⟩:=h.guard;injection h with h;obtain⟨j',l',rfl,x',y'⟩:=r;simp only[csAll,j',l',x',y'];obtain⟨j',l'⟩:=f;obtain⟨j',l',x'⟩:=L;obtain⟨j',l',x'⟩:=f;obtain⟨j',l',x',y',J',K',M',e,O'⟩:=x;let U:=R.ln;rw[TM,Aqp _ H j'];rw[Te,j',l',x',smd.mp y'];(rcases j' with⟨l',x'⟩|⟨y',J'⟩);skip;obtain⟨m,j',l'⟩:=I.loc;obtain⟨j',l',rfl,x',y',J'⟩:=h;obtain⟨j',l',x',y',os⟩:=s;(rcases j' with h|h);obtain⟨j',G,l'⟩:=O;obtain⟨j',l',x',y',rfl,J',K',M'⟩:=h;simp only[j',l',csAll,x',y'];obtain⟨j',l'⟩:=g;obtain⟨j',l',x'⟩:=Q;show z.elim;rw[Vb,this];rw[To,Auw j'];skip))
def kkX4:=kkU `(by((rcases h with⟨j',l'⟩|⟨x',y'⟩|⟨J',K'⟩);injection e with W N;obtain⟨j',l',x'⟩:=h.opt;obtain⟨X,j'⟩:=b;intro S s j' H l' I x';obtain⟨G,j',l'⟩:=b;obtain⟨_,j',l',x',y'⟩:=x;obtain⟨j',l',x',y',e,J'⟩:=x;let j':=r.length;obtain⟨j',l',x'⟩:=x;obtain⟨j',l',x',y',J'⟩:=st;let C:=F.so;rw[<-j']at this;(rcases j' with⟨rfl,l'⟩|⟨x',y',J'⟩);obtain⟨j',l'⟩:=G.guard;(rcases C j' l' with rfl|rfl);obtain⟨⟨j',l'⟩,x'⟩:=M;(rcases bl j' l' x' with f|rfl);(rcases q with q|q);(rcases z with z|z);obtain⟨rfl,j'⟩:=m;(rcases j' with h|h|h);(rcases j' with⟨l',x'⟩|⟨y',J',K',M',O'⟩);simp only[j',↓l',csAll,x',y'];obtain⟨j',l',qa⟩:=M;obtain⟨j',e,l',x'⟩:=st;obtain⟨j',l',rfl,x',y',J'⟩:=r;unfold Lk.line;(let j':l'=x':=by subst y';rfl);obtain⟨j',l',G,x'⟩:=q;(rcases j' with z|z);(let j':l'=x':=by unfold y';rw[J',K']);simpa using Y;decide+kernel;obtain⟨j',l',x'⟩:=ha;obtain⟨j',J,l',x',y'⟩:=q;skip;skip;obtain⟨j',l'⟩:=Z;obtain rfl:j':=m;obtain⟨j',l',x',y',J',_⟩:=q;simp at this;generalize j'=l' at*;skip;obtain⟨j',l',x',y',J'⟩:=s';rw[UC,j',csAll];rw[Ua,j',Bil l' B x' y' J' S h];(rcases Pq.em j' l' with⟨x',y'⟩|B);injection O with G h2;(rcases Y with rfl|rfl);injection h with G z;injection Z with W N;injection p with W N;(rcases L with rfl|L)))
def kkX5:=kkU `(by(injection O with O;injection Z with Z;injection p with p;injection H with e;(rcases j' with⟨_,l',x',y'⟩|h|h);(rcases Z with Z|Z);(rcases Q with Q|Q);grind[uG,sA.bind];obtain⟨rfl,j'⟩:=r;obtain⟨rfl,j'⟩:=R;(rcases FI j' with e|h);(simp only[tF]at j'|-);unfold j' Line.moved;obtain⟨hd,j'⟩:=J;simp only[tF]at j';obtain⟨X,j'⟩:=Q;(let j':l'=x':=by rw[<-y'];grind);unfold signed;obtain⟨S,j',l',x'⟩:=v;obtain⟨j',l',x,x'⟩:=o;(let j':l'=x':=by rw[<-y'];rfl);(let j':l'=x':=by rw[<-y',J',K'];grind);(rcases asK j' with rfl|rfl|rfl);(rcases L with rfl|rfl);(rcases p with⟨V,j'⟩|⟨l',x'⟩);(rcases q with⟨U,j'⟩|⟨l',x'⟩);(rcases G with⟨G,j'⟩|G);injection e with W _;injection h with _ h;(rcases h with h|h|h);grind[LkF.rightAll];(rcases FI j' with rfl|Y);obtain⟨D,j',l'⟩:=I.look;(rcases p with e|e);obtain⟨j',rfl⟩:=P;(rcases Ard j' with B|B);(rcases Ard j' with P|P);obtain⟨j',rfl⟩:=Y;obtain⟨j',rfl⟩:=c;(rcases lC j' with hm|⟨l',x',y'⟩);(rcases FI j' with e|e);skip;grind[Heap.size_push,Nat.lt_succ_of_lt];simp-implicitDefEqProofs only[csAll];grind[List.drop_eq_getElem_cons];(rcases Int.mul_eq_zero.mp j' with z|z);grind[Heap.get?_push_of_some];grind[Int.mul_ediv_add_emod];(rcases j' with rfl|rfl|rfl|rfl|rfl);injection this with W this;injection this with C this;injection this with M this;(rcases I.ok.u_ with e|⟨e,j'⟩)))
def kkX:Nat->kkS|0=>kkX0|1=>kkX1|2=>kkX2|3=>kkX3|4=>kkX4|5=>kkX5|_=>.missing
def kkI(a:Char)(l:List Char)(x n:Nat):Option Nat:=
 match l with
 |[b]=>("abcdefghijklmnopqrstuvwxyzABCDEFGHIJKLMNOPQRSTUVWXYZ_'".toList.idxOf? b).map (x*54+·)
 |[b,c]=>if 'a'<=b&&b<='z'&&'a'<=c&&c<='z'then some (n+x*676+(b.toNat-97)*26+(c.toNat-97)) else none
 |_=>none
def kkH:Nat->kkS->Nat
|0,_=>0
|n+1,s=>match s with
 |.ident _ _ (.str .anonymous h) _=>match ["j'","l'","x'","y'","J'","K'","M'","O'"].idxOf? h with|some i=>i+1|_=>0
 |.node _ _ c=>c.foldl (λm x=>max m (kkH n x)) 0
 |_=>0
def kkR(x:Array kkS):Nat->kkS->kkS
|0,s=>s
|n+1,s=>match s with
 |.ident _ _ (.str .anonymous h) _=>match ["j'","l'","x'","y'","J'","K'","M'","O'"].idxOf? h with|some i=>x[i]!|_=>s
 |.node i k c=>if k==`Lean.Parser.Tactic.rcasesPatLo&&c[0]![0][0].isOfKind `Lean.Parser.Tactic.rcasesPat.one then (let t:=kkR x n c[0]![0][0][0];if t.isIdent then .node i k (c.map (kkR x n)) else kkP 9 t) else .node i k (c.map (kkR x n))
 |_=>s
def kkG(t:Bool)(f:kkS)(x:Array kkS):kkM:=
 let e:=Lean.Macro.throwUnsupported
 match f.getId with
 |.str .anonymous s=>match s.toList with
  |a::l=>
   let r:=if t then (if 'A'<=a&&a<='S'then (kkI a l (a.toNat-65) 1026).map λi=>(kkT (i/54))[1].getSepArgs[i%54]? else none) else (if 'T'<=a&&a<='Z'then (kkI a l (a.toNat-84) 378).map λi=>(kkX (i/54))[1][0][0][0][1][0][0].getSepArgs[i%54]? else none)
   match r with
   |some (some s)=>if kkH 99 s==x.size&&!(s.isMissing||s.isOfKind `Lean.Parser.Term.hole||s.isOfKind `Lean.Parser.Tactic.skip)then return kkR x 99 s else e
   |_=>e
  |_=>e
 |_=>e
local macro_rules
|`($f:ident $x*)=>kkG true f (x.map (·.raw))
|`([$f:ident,$x,*])=>kkG true f (x.getElems.map (·.raw))
local macro_rules(kind:=ident)
|x=>kkG true x #[]
local macro_rules(kind:=Lean.Parser.Tactic.rwSeq)
|s=>let y:=s[2][1].getSepArgs;let f:=y[0]![1];if f.isIdent then kkG false f ((y.extract 1 y.size).map λz=>z[1]) else Lean.Macro.throwUnsupported
local macro_rules
|`(tactic|let $d:letDecl)=>`(tactic|have $d:letDecl)
|`(tactic|show $d)=>`(tactic|refine $d)
local macro_rules(kind:=Lean.Parser.Command.declaration)
|s=>if [`Lean.Parser.Command.definition,`Lean.Parser.Command.abbrev,`Lean.Parser.Command.instance].contains s[1].getKind&&s[0][1].getNumArgs==0&&s[0][4].getNumArgs==0 then return s.setArg 0 (s[0].setArg 4 (Lean.mkNullNode #[Lean.mkNode `Lean.Parser.Command.noncomputable #[Lean.mkAtom "noncomputable"]])) else Lean.Macro.throwUnsupported
local macro_rules(kind:=Lean.Parser.Command.declaration)
|s=>let d:=s[1];let n:=d[1][0].getId;if d.isOfKind `Lean.Parser.Command.definition&&d[2][1].getNumArgs>0&&(match n with|.str _ s=>'a'<=s.front&&s.front<='r'|_=>false)&&!([`add,`bind,`bl,`cB,`cD,`cE,`cI,`cS,`d,`d0,`ev,`ex,`fdOf,`gl,`grow,`hS,`inv,`ipI,`kV,`nN,`ok,`ownOf,`pD,`pow,`q0,`rI,`rU].contains (.mkSimple n.getString!))then return s.setArg 1 (.node .none `Lean.Parser.Command.theorem #[Lean.mkAtom "theorem",d[1],.node .none `Lean.Parser.Command.declSig #[d[2][0],d[2][1][0]],d[3]]) else Lean.Macro.throwUnsupported
noncomputable section
def si:=@Bool.and_eq_true
def sbK:=@PySem.wpAny_bind
def sdP:=@decide_eq_true
def sd_:=@decide_eq_false
def sl3:=@if_pos
def sjT:=@if_neg
def skJ:=@List.getElem?_eq_getElem
def sba:=@Nat.le_trans
def sl5:=@List.getElem?_eq_some_iff
def sl4:=@of_decide_eq_true
def su:=@List.length_append
def sr:=@List.length_map
def scH:=@PySem.Heap.get?_push_of_some
def zh:=@Nat.pow_le_pow_right
def sdQ:=@Nat.le_refl
def skK:=@PySem.wpAny_pure
def skL:=@Option.some.inj
def s0:=@List.length_singleton
def zG:=@PySem.Heap.get?_push_size
def shN:=@Nat.mul_le_mul_right
def sP:=@Int.toNat_natCast
def sT:=@List.length_cons
def sl6:=@Nat.mul_le_mul
def tm:=@congrFun
def zM:=@List.mem_map
def sjy:=@Nat.le_mul_of_pos_right
def sj7:=@Nat.lt_of_lt_of_le
def yQ:=@List.mem_cons
def wE:=@List.contains_iff_mem
def uP:=@PySem.Heap.lt_size
def wc:=@Int.natAbs_natCast
def tZ:=@List.all_eq_true
def um:=@Bool.false_eq_true
def sct:=@List.mem_singleton
def sK:=@Nat.pow_add
def smd:=@Option.map_eq_some_iff
def tD:=@List.getElem?_map
def tV:=@List.mem_of_getElem?
def sO:=@List.map_map
def saf:=@List.mem_append
def tT:=@Int.natCast_mul
def xz:=@List.all_cons
def u7:=@PySem.mem_of_lookup
def tz:=@List.map_cons
def tX:=@List.lookup_cons
def sl7:=@List.mem_cons_of_mem
def uk:=@List.append_assoc
def zB:=@List.mem_cons_self
def yW:=@Bool.false_ne_true
def ug:=@List.length_take
def ud:=@List.append_nil
def uw:=@decide_eq_true_eq
def w_:=@List.getD_eq_getElem?_getD
def t5:=@Nat.pow_succ
def uz:=@Nat.two_pow_pos
def xK:=@List.getElem?_append_left
def yx:=@Int.mul_le_mul_of_nonneg_right
def uU:=@Bool.not_eq_true
def skM:=@List.getElem?_append_right
def tO:=@if_false
def zj:=@List.getElem?_eq_none
def yt:=@List.take_length
def vc:=@Bool.or_eq_true
def sl9:=@List.mem_iff_getElem?
def uQ:=@Nat.ne_of_lt
def yN:=@List.getElem?_set_self
def zC:=@List.getElem?_set_ne
def tF:=@if_true
def sic:=@List.map_congr_left
def siB:=@beq_eq_false_iff_ne
def wS:=@PySem.Heap.size_push
def saQ:=@PySem.wpAny_field
def uc:=@Ne.symm
def zx:=@PySem.AutoSeq1.wpAny_loadPart'
def vG:=@Bool.false_and
def wv:=@List.length_set
def sjJ:=@Nat.mul_le_mul_left
def wT:=@List.filter_cons
def xx:=@PySem.wpAny_Call_Name_kw
def xU:=@List.not_mem_nil
def xT:=@Bool.not_eq_true'
def xy:=@List.size_toArray
def yT:=@PySem.wpAny_newObj_type
def seB:=@PySem.wpAny_callSpecial?_slot
def we:=@Nat.mul_assoc
def zK:=@PySem.Heap.get?_update_other
def uN:=@PySem.W.look_both
def sl8:=@PySem.wpAny_mono
def vo:=@congrArg
def scE:=@Classical.choose_spec
def sbH:=@PySem.F.slot_dict_keyiterator_next
def xG:=@Int.natCast_add
def xI:=@List.map_append
def sas:=@List.getElem?_of_mem
def smb:=@PySem.wpAny_call_entry
def scI:=@List.isEmpty_iff
def wQ:=@List.any_cons
def yu:=@Int.natAbs_mul
def yi:=@PySem.sizeLine_eq
def zD:=@PySem.wpAny_truthy_bool
def sjx:=@List.drop_eq_getElem_cons
def sad:=@Std.lt_of_lt_of_le
def zg:=@List.getElem_mem
def xa:=@Int.le_of_lt
def sdU:=@List.pairwise_cons
def sd7:=@Int.mul_ediv_cancel_left
def zO:=@PySem.Obj.data_mapFields
def sbG:=@PySem.Paired.length
def sma:=@Nat.lt_irrefl
def smc:=@PySem.wpAny_loadPart_at
def yS:=@List.nodup_cons
def sh3:=@List.findIdx?_eq_some_iff_getElem
def saq:=@List.any_eq_true
def zH:=@List.length_drop
def sa4:=@decide_eq_true_iff
def sfg:=@Int.mul_ediv_add_emod
def sbg:=@List.getElem?_take
def sbA:=@List.mem_append_right
def sbD:=@PySem.W.callWith_K
def sbJ:=@PySem.Heap.get?_update_self
def sbj:=@List.contains_cons
def sda:=@List.getElem?_take_of_lt
def scw:=@List.mem_of_mem_take
def sbf:=@Bool.not_eq_false
def sfi:=@Int.mul_le_mul_of_nonneg_left
def seK:=@PySem.wpAny_typeNameOfWhole_keyiter
def sd8:=@List.length_eq_zero_iff
def scy:=@Function.comp_apply
def sio:=@PySem.wpAny_isSubtype_exc
def sav:=@PySem.wpAny_seqItems
def seC:=@PyProof.Rows.slot_tuple_getitem
def sdK:=@Nat.le_mul_of_pos_left
def sjG:=@Int.pow_pos
def zf:=@Nat.mul_comm
def zm:=@Nat.sub_self
def yY:=@List.map_nil
def sfG:=@Int.fdiv_eq_of_eq_mul_right
def sex:=@PyProof.Rows.callWith_type1
def smh:=@PySem.wpAny_setField_rec
def smf:=@List.take_left'
def vH:=@trivial
def saH:=@List.mem_filter
def saK:=@PySem.wpAny_passesOwn
def sdl:=@PySem.Obj.isFreed_of_fields
def sme:=@PySem.wpAny_ite_false
def sac:=@Bool.true_and
def sa8:=@List.map_take
def sfU:=@PySem.F.slot_tuple_iterator_next
def sd1:=@Rat.divInt_eq_div
def sbE:=@List.flatten_cons
def sh_:=@List.filter_congr
def sdJ:=@Nat.pow_lt_pow_right
def sbb:=@Int.mul_nonneg
def sjM:=@List.mem_range
def saT:=@PySem.wpAny_setField
def sah:=@Nat.max_self
def sfk:=@Int.ofNat_le
def sai:=@Int.le_trans
def sal:=@Nat.zero_add
def wN:=@Prod.ext
def seL:=@PySem.wpAny_typeNameOf_keyiter
def sc1:=@List.filterMap_cons
def sde:=@List.replicate_succ
def sjA:=@List.replicate_append_replicate
def sfc:=@List.getElem?_cons_succ
def sjR:=@Option.bind_eq_some_iff
def sch:=@List.map_drop
def sbu:=@PySem.W.mg_of
def scj:=@Rat.intCast_sub
def sdG:=@Nat.lt_of_le_of_lt
def sdL:=@Int.emod_lt_of_pos
def sdS:=@List.filter_append
def sbC:=@Bool.eq_iff_iff
def sd0:=@List.getElem?_drop
def sfO:=@List.zip_cons_cons
def sag:=@Nat.add_mul
def sjQ:=@Nat.zero_le
def sh6:=@List.take_append_of_le_length
def smi:=@List.ext_getElem?
def sgK:=@Nat.lt_succ_of_lt
def scq:=@List.take_succ
def sft:=@List.set_append_right
def saL:=@Nat.ne_of_gt
def sdN:=@List.cons_append
def sfx:=@List.mem_append_left
def sfE:=@Bool.or_eq_false_iff
def sdh:=@Nat.lt_succ_self
def sgh:=@PySem.Calls.Name_function_global
def sbI:=@PySem.wpAny_attempt
def sfA:=@List.takeWhile_cons
def sfI:=@Int.toNat_of_nonneg
def sc6:=@PySem.W.looks_findIn
def sez:=@PySem.W.callWith_K0
def smj:=@PySem.Heap.SameBut.update
def sdC:=@Rat.intCast_mul
def sdE:=@Int.natCast_one
def sfp:=@List.nil_append
def sdk:=@List.length_nil
def shU:=@List.pairwise_iff_getElem
def sh9:=@Classical.byContradiction
def siy:=@Option.isNone_iff_eq_none
def scp:=@Nat.add_zero
def scu:=@Bool.or_true
def sby:=@Nat.le_of_lt
def smg:=@PySem.codeAny_mono
def sgD:=@PySem.F.args_tuple_add_2
def sfT:=@PySem.wpAny_pyIter_tuple
def sfe:=@List.drop_zero
def sdX:=@List.drop_drop
def saP:=@PySem.wpAny_call
def sgC:=@PySem.F.entry_tuple_add
def shM:=@Nat.lt_trichotomy
def sfu:=@List.pairwise_map
def sfH:=@List.flatMap_cons
def shD:=@Rat.natCast_lt_natCast
def sjw:=@List.drop_eq_nil_of_le
def scr:=@Prod.mk.inj
def sgI:=@List.take_of_length_le
def sgB:=@PySem.F.slot_tuple_add
def sgH:=@PySem.Calls.callWith_builtin
def sdF:=@Bool.false_or
def sdI:=@Nat.add_assoc
def sdW:=@Bool.or_false
def sdb:=@PySem.wpAny_holding
def sjz:=@Nat.log2_two_pow
def sfM:=@beq_self_eq_true
def sfQ:=@Nat.succ_ne_zero
def sf0:=@PySem.F.slot_tuple_mul
def sgx:=@PySem.W.methodCall_KW
def siU:=@List.length_replicate
def siT:=@PySem.plainObj_wpAny_Assign_Attribute
def seA:=@List.of_mem_zip
def sff:=@Nat.max_eq_left
def sfq:=@Nat.min_eq_left
def sdg:=@List.any_map
def sdY:=@List.set_set
def sgg:=@PySem.wpAny_loadName_local
def seF:=@PySem.pushCells_keeps
def sjf:=@PySem.F.args_dict_keyiterator_next_1
def sfS:=@Option.map_some
def sfV:=@PySem.F.slot_zip_next
def sil:=@PySem.wpAny_updateSeq_pair
def sje:=@PySem.F.entry_dict_keyiterator_next
def sh2:=@List.length_pos_iff
def sge:=@PySem.W.hideAll_get
def sgr:=@PySem.W.plainGet_of
def sgE:=@Array.length_toList
def sc8:=@Nat.le_succ
def sjp:=@Lean.Grind.Ring.intCast_neg
def shE:=@Std.lt_of_le_of_lt
def shF:=@Nat.add_sub_cancel
def shP:=@of_decide_eq_false
def sgo:=@List.mem_filterMap
def sgN:=@PySem.tupleKind_room_in1
def skd:=@PySem.F.attrBase_ValueError
def sjE:=@Int.lt_of_mul_lt_mul_right
def sjF:=@Int.fdiv_eq_ediv_of_nonneg
def sjH:=@Int.fmod_eq_emod_of_nonneg
def sjW:=@Int.sign_eq_neg_one_of_neg
def seG:=@PySem.wpAny_standAt
def sj0:=@Nat.mod_two_eq_zero_or_one
def smk:=@PySem.wpAny_onRaise
def shL:=@Int.lt_trichotomy
def shO:=@Nat.or_lt_two_pow
def sgy:=@List.take_sublist
def sib:=@List.length_range
def sgj:=@PySem.wpAny_Return_some
def sgJ:=@PySem.wpAny_pyIter_list
def sgL:=@Nat.le_of_succ_le
def sgM:=@Option.isSome_map
def sgO:=@PySem.wpAny_dictEntries
def sgP:=@PySem.Obj.cls_mapFields
def sdH:=@Nat.mod_lt
def sjN:=@List.findIdx?_eq_none_iff
def sjV:=@List.mem_take_iff_getElem
def sdf:=@PySem.call_meets
def sj4:=@PySem.F.slot_dict_getitem
def sgt:=@PySem.W.looks_clsIn
def sjD:=@Nat.lt_log2_self
def seI:=@Bool.true_or
def sjr:=@Nat.pow_lt_pow_iff_right
def shH:=@Nat.max_eq_right
def sfh:=@Int.ofNat_lt
def shV:=@List.getElem_map
def sjP:=@List.headD_eq_head?_getD
def sh4:=@List.drop_length
def sml:=@decide_eq_decide
def seE:=@List.all_map
def sia:=@Nat.mul_lt_mul''
def sgi:=@PySem.wpAny_execs_cons
def sgA:=@PySem.noFill_tuple_add
def sgF:=@Option.getD_none
def seH:=@Nat.le_of_eq
def sjg:=@PySem.wpAny_isInstance
def sjY:=@List.set_eq_of_length_le
def sie:=@Nat.le_of_not_lt
def sjq:=@Nat.add_sub_cancel_left
def sjC:=@Nat.exists_eq_add_of_le
def sgs:=@PySem.W.Looks.here
def sj6:=@PySem.F.plainAttrs_list
def sj8:=@decide_eq_false_iff_not
def shC:=@List.drop_left'
def shJ:=@Int.emod_nonneg
def sh7:=@List.all_append
def sj5:=@List.length_zip
def shI:=@Nat.add_le_add
def shK:=@Int.mul_le_mul
def shZ:=@Bool.and_false
def sey:=@beq_iff_eq
def shS:=@Except.ok.inj
def shX:=@Bool.not_true
set_option hygiene false in
local macro_rules
|`(tactic|simp $c:optConfig only[$xs,*]$[$l:location]?)=>do
 let f:=λ(y:Lean.Syntax)=>y.getKind==`Lean.Parser.Tactic.simpLemma&&y[2].getId==`csAll
 let y:=xs.getElems
 if y.any (λy=>f y.raw) then
  let z:=y.filter (λy=>!(f y.raw))
  `(tactic|simp $c:optConfig only[bJ,ajA,aap,gx,asT,asU,asV,asW,asX,aaq,ajB,asY,asZ,as_,as0,as1,as2,as3,as4,as5,as6,as7,as8,as9,ata,atb,atc,atd,ate,atf,atg,ath,ati,atj,atk,atl,atm,atn,ato,atp,atq,atr,ats,ajD,ajE,att,atu,atv,atw,atx,aty,atz,atA,atB,atC,atD,atE,atF,atG,atH,iP,atI,ajF,aar,atJ,iQ,aS,atK,iR,ajH,ajI,aas,atZ,at0,at1,at2,at3,at4,at5,at6,at7,at8,at9,ajJ,mw,aua,aub,auc,aud,aue,auf,auh,aui,auj,auk,aul,ajK,aat,my,iS,aum,mz,aun,ajM,ajN,aax,aay,auo,aaz,aup,auq,aur,aus,aut,auu,atL,atM,atN,atO,atP,atQ,atR,atU,atV,atW,atX,atY,sjn,List.map_cons,List.map_nil,List.nil_append,List.cons_append,List.replicate_succ,List.replicate_zero,List.length_cons,List.length_nil,List.all_cons,List.all_nil,List.getElem?_cons_zero,List.getElem?_cons_succ,List.getElem?_nil,Bool.and_true,Bool.true_and,Bool.and_self,if_true,if_false,Bool.false_eq_true,Nat.reduceSub,Nat.reduceAdd,Nat.reduceBEq,beq_self_eq_true,Bool.not_true,Bool.not_false,decide_true,decide_false,and_self,true_and,$z,*]$[$l]?)
 else Lean.Macro.throwUnsupported
local macro_rules
|`(kkH $x*)=>do
 let mut r:=#[]
 let y:=x.map (·.raw.isNatLit?.getD 0)
 for i in[0:y.size/2] do
  for k in[y[2*i]!:y[2*i+1]!+1] do
   r:=r.push (Lean.Syntax.mkApp (Lean.mkIdent (if k<2000 then .str `Hd.sh s!"o_{k}" else .str `PySem.W s!"boot_o_{k-2000}")) #[Lean.mkIdent `P])
 `([$r,*])
local macro_rules
|`(command|universe kkN)=>do
 let l:=[2,4,58,96,119,142,165,188,211,234,257,294,373,456,501,525,549,573,632,702,774,791,850,929,992,994,1035,1094,1167,1179,1181,1191]
 let f:=λ(s:String)(l:List Nat)=>l.map λk=>Lean.Name.str `Hd.sh (s++toString k)
 return Lean.mkNullNode (←([`PySem.Challenge.pw_linkparts_s01_answers,`Hd.sh.env_1]++f "o_" (List.range 1192)++f "tree_" l++f "sts_" (l.map (·+2))).toArray.mapM λn=>`(command|theorem $(Lean.mkIdent (.str `PySem.W.Fast s!"tw{n.hash}")):ident:True:=trivial))
universe kkN
section
open PySem PySem.W PyProof.Rows
namespace Hd
open_shared sh for Challenge.pw_linkparts_s01_answers leaving 0
end Hd
end
section
open PySem PySem.W PyProof.Rows
namespace Hd
abbrev pw:Program:=Challenge.pw_linkparts_s01_answers
def q0:Program:={pw with main:={pw.main with body:=pw.main.body.drop 185}}
def wJ:List Str:=(["Line","with_numbers","count_word","find_name","is_pin","is_fixed","has_bar_to","share_piece","Refusal","WrongNumber","TooLong","NotALinkage","NotClosed","NoSuchLine","NameTaken","TextFault","NoLinkageYet","MOST_LINES","MOST_DYADS","MOST_OF_PLACE","MOST_OF_LENGTH","MOST_DIVISOR","LAST_LETTER","MOST_OF_NAME","common_factor","is_letter","is_length","is_place","numbers_fit","check_line","check_linkage","renamed","kept_numbers","cut_off","root_below","product","enclosed","enclosed_roots","sign_of_whole","lifted","first_half","second_half","under_last_root","plus","times_whole","minus","times","square_of","with_root","sign_of","NEAREST","NOT_ABOVE","NOT_BELOW","UNIT_BITS","KEPT_BITS","FRACTION_BITS","SIGN_BIT","FIRST_TRIAL_BITS","units_between","sign_beyond","counted_units","is_rounded_away","rounded_bits","double_bits","Spot","Figure","Way","Meeting","product_of_factors","brought_to","way_between","with_spot","with_pin","with_crank","with_rider","meeting","with_touching","with_meeting","MOST_OF_CRANK_PLACE","LAST_MODE","LEFT_OR_RIGHT","with_dyad","with_line","figures_of","sides_of","check_place","told_sides","closed_figure","point_bits","MOST_OF_SHIFT","shifted_line","turned_line","enlarged_line","shifted","turned","enlarged","MOST_OF_FACTOR","NOTHING","is_factor","check_points","new_names","with_copier","with_inversor","MINUS","SLASH","ZERO","NINE","LETTER_A","LETTER_Z","MOST_DIGITS_OF_NUMBER","MOST_DIGITS_OF_NAME","LEAST_DIVISOR","NO_BYTE","Scanner","scan_digits","scan_unsigned","scan_number","scan_fraction","scan_name","MOST_BYTES","BLANK","LINE_END","WORDS","read_word","read_new_name","read_point","read_length","read_fraction","read_place","read_pin","read_crank","read_dyad","read_rider","READ_BEHIND_WORD","may_follow","read_line","read_linkage","A","B","C","LETTER_D","tracer_linkage","straight_linkage","round_linkage","lowest","circle_numbers","LETTERS","name_text","fraction_text","words_of_line","write_linkage","TAKE","Bench","answer_take","answer_print","answer_copier","answer_inversor","answer_shift","answer_quarter","answer_scale","answer_rename","answer_cut","answer_straight","answer_round","answer_figures","answer_point","ANSWER","HOW_MANY_GIVEN","answer_call"]:List String).map Str.ofString
noncomputable def H1(P:Params):Heap:=⟨⟨kkH 2000 2001 60 60 1183 1183 2004 2010 1 1 1184 1184 3 4 7 58 63 92 261 261 94 96 101 119 124 142 147 165 170 188 193 211 216 234 239 257 262 294 298 373 377 456 460 501 505 525 529 549 553 573 577 632 636 702 706 774 778 791 795 850 854 929 933 992 998 1035 1039 1094 1098 1167 1171 1179 1185 1191⟩,{}⟩
def arf:(λP=>absHeap (Hd.sh.tree_1191 P) 1106 {})=λP=>H1 P:=by kernel_rfl
end Hd
end
section
open PySem PySem.W PyProof.Rows
namespace Hd
def arh:(λP=>staticsOk (importedModules pw.main.body) (boot_heap P) (H1 P))=λ_=>true:=by kernel_rfl
def ari:(λP=>namesBound pw (H1 P))=λ_=>true:=by kernel_rfl
def arj:(λP=>laidKept (boot_heap P) (H1 P))=λ_=>true:=by kernel_rfl
def ark:(λP=>(H1 P).bltView)=λ_=>bltViewBooted:=by kernel_rfl
def arl:(λP=>(H1 P).keysOk (looseW q0 wJ) ((recsOf q0).map (·.name)) ((litsOf q0).map (·.1)) ((clssOf q0 (looseW q0 wJ)).map (·.name)))=λ_=>true:=by kernel_rfl
def arm:(λP=>(H1 P).accountedOkI (importedModules pw.main.body))=λ_=>true:=by kernel_rfl
def arn:(λP=>((H1 P).isNs mainGlobals,(H1 P).isNs builtinsNs))=λ_=>(true,true):=by kernel_rfl
def aro:(λP=>tablesOk q0 (H1 P))=λ_=>true:=by kernel_rfl
end Hd
end
section
open PySem PySem.W PyProof.Rows
namespace Hd
noncomputable def S1(P:Params)(os:OsState):Shared:=⟨H1 P,#[],{},1891,os⟩
def arp:(λP os=>seen ((recsOf q0).map (·.name)) (ownsOf q0) [] {S1 P os with gens:=#[]})=λ_ _=>expectedOf q0:=by kernel_rfl
def arq:(λP os=>tabsOk q0 (S1 P os))=λ_ _=>true:=by kernel_rfl
def arr:(λP os=>pinSeenD q0 (drecsOf q0) (S1 P os))=λ_ _=>pinGoodD (drecsOf q0):=by kernel_rfl
def ars:(λP os=>plainSeenE q0 (looseW q0 wJ) (S1 P os))=λ_ _=>plainGoodE q0 (looseW q0 wJ):=by kernel_rfl
def art:(λP os=>plainSeenD q0 wJ (S1 P os))=λ_ _=>plainGoodD q0 wJ:=by kernel_rfl
def aru:(λP os=>wideSeen q0 (S1 P os))=λ_ _=>wideGood q0:=by kernel_rfl
def arv:(λP os=>clsSeenW q0 wJ (S1 P os))=λ_ _=>clsGoodW q0 wJ:=by kernel_rfl
end Hd
end
section
open PySem PySem.W PyProof.Rows
namespace Hd
abbrev sco:Pos:={line:=0,col:=0,endLine:=0,endCol:=0}
abbrev slU:Pos:={line:=734,col:=0,endLine:=749,endCol:=19}
noncomputable abbrev cE:Code:=Code.body (behindTheImports pw) Hd.sh.env_1
noncomputable abbrev B0:List Frame:=[topFrame sco]
abbrev scX:Option Value:=some (.ref 6)
noncomputable abbrev Sa(w:World)(os:OsState):Shared:=SharedT.abs ⟨Hd.sh.tree_4 w.params,15,{},⟨[]⟩,{},187,os⟩
noncomputable abbrev Sk(w:World)(os:OsState):Shared:=SharedT.abs ⟨Hd.sh.tree_1191 w.params,1106,{},⟨[]⟩,{},1891,os⟩
def arw:(λw:World=>((boot_heap w.params).isNs mainGlobals&&(Array.mk (α:=GenState) []).size==0,(boot_heap w.params).objs.size,(boot_heap w.params).nsMap mainGlobals "__annotations__"))=λ_=>(true,11,scX):=by kernel_rfl
theorem t_e:opening pw=plainProg pw.main.scope.names:=by kernel_rfl
theorem t_f:∀s,fenceModules? pw s=some s:=λs=>by kernel_rfl
def arx:(λ(w:World)os=>topGo treeTable pw w 11 scX 12 ⟨boot_heap w.params,⟨[]⟩,boot_drawn,boot_toks,os⟩ (topStub pw))=λw os=>some (Sa w os,⟨denote treeTable cE,cE,sco,B0⟩):=by kernel_rfl
def ary:(λ(w:World)os=>segRun treeTable pw w 11 scX 1 1 (Sa w os) (blockOf (behindTheImports pw) Hd.sh.env_1 cE sco B0))=λw os=>some (Flow.next,Sa w os,cE,sco):=by kernel_rfl
def arz:(λ(w:World)os=>topRun treeTable pw w 11 scX 2 (Sk w os) (restOf [] Hd.sh.env_1 cE slU B0))=λw os=>some (Sk w os):=by kernel_rfl
def arA(w:World)(os:OsState):topRun treeTable pw w 11 scX (Nat.add 12 (Nat.add 1 (Nat.add 382 (Nat.add 300 (Nat.add 244 (Nat.add 244 (Nat.add 244 (Nat.add 244 (Nat.add 244 (Nat.add 244 (Nat.add 245 (Nat.add 376 (Nat.add 388 (Nat.add 399 (Nat.add 264 (Nat.add 227 (Nat.add 229 (Nat.add 227 (Nat.add 389 (Nat.add 384 (Nat.add 378 (Nat.add 175 (Nat.add 379 (Nat.add 388 (Nat.add 391 (Nat.add 215 (Nat.add 377 (Nat.add 305 (Nat.add 392 (Nat.add 36 2)))))))))))))))))))))))))))))) ⟨boot_heap w.params,⟨[]⟩,boot_drawn,boot_toks,os⟩ (topStub pw)=some (Sk w os):=go_top (tm (tm arx w) os) (piece_block (tm (tm ary w) os) (Hd.sh.chain pw (behindTheImports pw) w os [] 2 (Sk w os) (tm (tm arz w) os)))
end Hd
end
section
open PySem PySem.W PyProof.Rows
namespace Hd
def arB:Nat.ble (Nat.add 12 (Nat.add 1 (Nat.add 382 (Nat.add 300 (Nat.add 244 (Nat.add 244 (Nat.add 244 (Nat.add 244 (Nat.add 244 (Nat.add 244 (Nat.add 245 (Nat.add 376 (Nat.add 388 (Nat.add 399 (Nat.add 264 (Nat.add 227 (Nat.add 229 (Nat.add 227 (Nat.add 389 (Nat.add 384 (Nat.add 378 (Nat.add 175 (Nat.add 379 (Nat.add 388 (Nat.add 391 (Nat.add 215 (Nat.add 377 (Nat.add 305 (Nat.add 392 (Nat.add 36 2)))))))))))))))))))))))))))))) 16690=true:=by kernel_rfl
def arC(w:World):(λos=>((staticsOk (importedModules pw.main.body) (boot_heap w.params) (H1 w.params)&&namesBound pw (H1 w.params)&&gensDone ⟨H1 w.params,⟨[]⟩,{},1891,os⟩&&laidKept (boot_heap w.params) (H1 w.params)),openSeen q0 wJ (importedModules pw.main.body) (λ_=>true) true ⟨H1 w.params,⟨[]⟩,{},1891,os⟩,(λs:Shared=>s.heap) ⟨H1 w.params,⟨[]⟩,{},1891,os⟩))=λ_=>(true,openGood q0 wJ,H1 w.params):=by
 funext os;let X:=tm arh w.params;let S:=tm ari w.params;let H:=tm arj w.params;let r:=tm ark w.params;let v:=tm arl w.params;let E:=tm arm w.params;let d:=tm arn w.params;let i:=tm aro w.params;let W:=tm (tm arp w.params) os;let P:=tm (tm arq w.params) os;let M:=tm (tm arr w.params) os;let q:=tm (tm ars w.params) os;let c:=tm (tm art w.params) os;let C:=tm (tm aru w.params) os;let a:=tm (tm arv w.params) os;show wN ?_ (wN ?_ rfl);·show uN (uN (uN X S) rfl) H
 ·show wN W (wN r (wN ?_ (wN P (wN M (wN q (wN c (wN C a)))))));show uN (uN (uN (uN (uN (uN v E) (vo Prod.fst d)) (vo Prod.snd d)) i) rfl) rfl
def arD:LeftO pw q0 wJ (λ_=>true) (λs:Shared=>s.heap) (λw=>H1 w.params) 16690 true:=LeftO.of_pieces (H₀:=boot_heap) (H₁:=H1) (gs₀:=⟨[]⟩) (gs₁:=⟨[]⟩) (d₀:=boot_drawn) (d₁:={}) (k₀:=boot_toks) (k₁:=1891) (m₀:=11) (ann:=scX) (M:=(Nat.add 12 (Nat.add 1 (Nat.add 382 (Nat.add 300 (Nat.add 244 (Nat.add 244 (Nat.add 244 (Nat.add 244 (Nat.add 244 (Nat.add 244 (Nat.add 245 (Nat.add 376 (Nat.add 388 (Nat.add 399 (Nat.add 264 (Nat.add 227 (Nat.add 229 (Nat.add 227 (Nat.add 389 (Nat.add 384 (Nat.add 378 (Nat.add 175 (Nat.add 379 (Nat.add 388 (Nat.add 391 (Nat.add 215 (Nat.add 377 (Nat.add 305 (Nat.add 392 (Nat.add 36 2))))))))))))))))))))))))))))))) (boot_open t_e (by decide) t_f) (λw=>tm arw w) (λw os=>by let r:=arA w os;let e:Sk w os=⟨H1 w.params,⟨[]⟩,{},1891,os⟩:=vo (λh=>(⟨h,⟨[]⟩,{},1891,os⟩:Shared)) (tm arf w.params);rw[e]at r;show r) arB arC
end Hd
end
section
open PySem PySem.W PyProof.Rows
namespace Hw
abbrev pw:Program:=Challenge.pw_linkparts_s01_answers
theorem w1:sreFenced pw.main=true:=by kernel_rfl
theorem w2:((moduleNames pw.main.body).isEmpty||lookedIntoSs (moduleNames pw.main.body) pw.main.body)=true:=by kernel_rfl
theorem w3:namesResolve pw=true:=by kernel_rfl
theorem w4:pw.boundNames.all (λn=>!worldNames.contains n)=true:=by kernel_rfl
theorem w5:noRoadLSs {strict:=!(importedModules pw.main.body).all cThrough.contains,foot:=none,bare:=(["vars","dir","locals"]:List Str).filter (readsOut pw pw.main.body)} pw.main.body=true:=by kernel_rfl
theorem w6:(namesMeet pw pw.main.body λ_ n=>attrL n)=true:=by kernel_rfl
theorem w7:pw.boundNames.contains Challenge.nm_linkparts_s01_answers=true:=by kernel_rfl
theorem w8:(!startupNames.contains Challenge.nm_linkparts_s01_answers)=true:=by kernel_rfl
theorem w9:specDef pw Challenge.nm_linkparts_s01_answers 1=true:=by kernel_rfl
def aeU:(Challenge.fa_linkparts_s01_answers).all Codec.fits=true:=by kernel_rfl
def aeV:(Challenge.fr_linkparts_s01_answers).ok=true:=by kernel_rfl
end Hw
end
section
open PySem PySem.W PyProof.Rows
open Hw(w1 w2 w3 w4 w5 w6 w7 w8 w9 aeU aeV)
namespace Hd
abbrev scY:OpenSpec:=Challenge.rw_linkparts_s01_answers
def aeW:scY.wellSaid=true:=uN (uN (uN (uN (uN (uN (uN (uN (uN (uN w1 w2) w3) w4) w5) w6) w7) w8) w9) aeU) aeV
noncomputable def d0:DefRec:=match defOf q0 Challenge.nm_linkparts_s01_answers with|some (d,_)=>d|none=>⟨"",default,[],default,default⟩
def arE:defOf q0 Challenge.nm_linkparts_s01_answers=some (d0,[]):=by kernel_rfl
def arF:pw.theDef Challenge.nm_linkparts_s01_answers=some (d0.params,d0.body,d0.scope):=by kernel_rfl
def arG:kwWritten? d0.params.kwonlyargs d0.params.kw_defaults=some []:=by kernel_rfl
def arH:(chainsOk q0&&opensWell pw)=true:=by kernel_rfl
def arI:pw.bare:=⟨rfl,rfl,rfl,rfl,rfl,by decide+kernel⟩
def YP(w:World)(h:Heap):Prop:=∀b o,(H1 w.params).get? b=some o->h.get? b=some o
def arJ(call:WalkOS q0 wJ (λ_ _=>True) YP scY d0 [] λf J=>call f J):scY.Holds:=holds_os (r:=scY) arD (λw s e b o h=>by rw[show s.heap=H1 w.params from e];show h) (λw h g y k b o T=>k b o (y b o T)) (λ_ _=>vH) (λ_ _ _ _ _=>vH) arE arF arG (λs _=>recFacts_of (show recOk [] s=true from rfl)) os_shapes aeW arH arI ⟨[.list []],by decide+kernel,by decide+kernel⟩ call
end Hd
end
section
open Lk hiding below copier hi inversor items lift line lines lo mul name near number print
namespace Core
inductive D where|sD|bl(b:Bool)|int(i:Int)|str(s:Ak)|tup(xs:Fs)|lst(xs:Fs)|dict(kvs:Bkf D)|obj(c:Nat)(fs:Fs)|uh(xs:Ao)|fn(f:Nat)|cell(i:Nat)|sG(f:Nat)(vs:Fs)deriving Inhabited,Repr
inductive uR where|lst(xs:Fs)|obj(c:Nat)(fs:Fs)|dict(kvs:Bkf D)|dead deriving Inhabited,Repr
abbrev sd:=Eg uR
abbrev sM:=QE LI
inductive sA(α:Bq)where|ok(a:α)(st:sd)|err(x:Ao)(st:sd)|stuck deriving Repr
def sA.bind{J d:Bq}:sA J->(J->sd->sA d)->sA d|.ok a o,f=>f a o|.err x o,_=>CM x o|.stuck,_=>AJ
inductive Op where|add|sub|mul|fdiv|mod|shl|shr|band|bor|bxor deriving DecidableEq,Repr
inductive sgQ where|eq|ne|lt|le|gt|ge|is|zP|vp deriving DecidableEq,Repr
inductive sbL where|len|abs|max|divmod|sum|sorted|all|any|tuple|str|ord|yk|join deriving DecidableEq,Repr
mutual
inductive E where|var(i:Nat)|ao(i:Nat)|lit(d:D)|bin(o:Op)(a b:E)|neg(a:E)|not(a:E)|cmp(o:sgQ)(a b:E)|chain(a b c:E)|and(es:Es)|or(es:Es)|ite(c a b:E)|tup(es:Es)|list(es:Es)|new(es:Es)|sbM|idx(a b:E)|tab(t:Nat)(b:E)|zQ(a hi:E)|zR(a lo:E)|sl(a lo hi:E)|fld(a:E)(c i:Nat)|call(f:Nat)(es:Es)|wV(a:E)(es:Es)|zS(f:Nat)(a:E)(es:Es)|mk(c:Nat)(es:Es)|yl(c:Nat)(es:Es)|prim(p:sbL)(es:Es)|comp(it:It)(i j:Nat)(b:E)|yZ(it:It)(i j:Nat)(c b:E)|lam(f:Nat)(uo:Ak)|sbN(a b:E)
inductive Es where|nil|cons(e:E)(es:Es)
inductive It where|seq(e:E)|range(e:E)|enum(e:E)|zip(a b:E)|keys(e:E)
end
mutual
inductive S where|set(i:Nat)(e:E)|saU(o:E)(c i:Nat)(e:E)|sdm(o:E)(c i:Nat)(e:E)|aug(i:Nat)(e:E)|put(i:Nat)(k v:E)|app(i:Nat)(e:E)|ext(i:Nat)(e:E)|expr(e:E)|ret(e:E)|raise(k:Nat)(es:Es)|ite(c:E)(a b:Ss)|wW(c:E)(b:Ss)|xB(i:Nat)(it:It)(b:Ss)|ww(i j:Nat)(it:It)(b:Ss)|zT(i:Nat)(e:E)
inductive Ss where|nil|cons(s:S)(ss:Ss)
end
def uq:Aw:=8388608
def tr:Aw:=Cvy
def uE(i:Int):Aw:=i.natAbs.log2
def wX:NC Fs (Ao)|[]=>Ae []|.int i::r=>Cja (wX r)|_=>none
def sbO:NC Fs (Ank)|[]=>Ae []|.bl i::r=>Cja (sbO r)|_=>none
def zU:NC Fs (Qb)|[]=>Ae []|.str i::r=>Cja (zU r)|_=>none
def uS(o:sd):NC D (Fs)|.lst C=>Jr|.cell i=>Czs o[i]? Jr|_=>none
def tP(o:sd):NC D (Fs)|.tup C=>Jr|.uh C=>As Bbx|d=>uS o d
def wx(o:sd)(c:Nat):NC D (Fs)|.obj O I=>Bo (O=c) Bha Ad|.cell i=>Cob o[i]? [Bo,O=c,Bha,Ad]|_=>none
def xC(o:sd):NC D (Bkf D)|.dict T=>Ae T|.cell i=>(match o[i]? with|some (.dict T)=>Ae T|_=>none)|_=>none
def tG{J:Bq}(o:sd):Jz J->sA J|some a=>Fw a|none=>AJ
def v7{J:Bq}(b:Bool)(o:sd)(a:J):sA J:=[Bo,b=Aa,Fw a,AJ]
def saV:D->NC D Bh|.int a,.int b=>As [AQ,a,b]|.bl a,.bl b=>As [AQ,a,b]|.str a,.str b=>As [AQ,a,b]|.tup a,.tup b=>([Czm,wX a,wX b,AQ x y])|_,_=>none
def wy:BU D|.sD=>true|_=>false
def tj(a b:Int):Bh:=Bn (uE a+uE b) tr
def t_(a b:Int):Bh:=Bn 0 b&&Bn (Au (uE a)+b) tr
def sY(a b:Nat):Bh:=Bn (a+b) uq
def ym(f:Aw->Aw->Aw)(o:sd)(a b:Int):KL:=Il (Bn 0 a&&Bn 0 b) o [Cjo,f [Ga,a] Bmx]
def sbP(o:sd):Op->D->D->KL|.add,.int a,.int b=>JL (a+b)|.add,.str a,.str b=>Il (sY HY Aic) o [Ft,a++b]|.add,.tup a,.tup b=>Il (sY HY Aic) o [HJ,a++b]|.add,a,b=>([Daq,uS o a,uS o b,v7 (sY AD CK) o [DK,x++y]])|.sub,.int a,.int b=>JL (a-b)|.mul,.int a,.int b=>Il (tj a b) o [Ec,a*b]|.mul,.tup a,.int n=>[Il,Qk HY&&(Qk n&&Azl n),o,Cdt Bur a]|.fdiv,.int a,.int b=>Il [Sf,b] o [Ec,a.fdiv b]|.mod,.int a,.int b=>Il [Sf,b] o [Ec,a.fmod b]|.shl,.int a,.int b=>Il (t_ a b) o [Ec,a*2^Bmx]|.shr,.int a,.int b=>Il [Bn,0,b] o [Ec,a/2^Bmx]|.band,.int a,.int b=>ym (·&&&·) o a b|.bor,.int a,.int b=>Cip o a b|.bxor,.int a,.int b=>ym Cuj o a b|_,_,_=>AJ
def yn:BU D|.int _=>true|.str _=>true|_=>false
def seO(x:D)(O:Fs):Bh:=O.any λy=>saV x y==Bwm
def zV(o:sd):sgQ->D->D->KL|.eq,a,b=>Akh [Cee,saV a b]|.ne,a,b=>Akh [IP,saV a b,c,Ed (! c)]|.lt,.int a,.int b=>JM (Bl a b)|.le,.int a,.int b=>JM (Bn a b)|.gt,.int a,.int b=>JM (RM)|.ge,.int a,.int b=>JM (Bn b a)|.is,a,.sD=>JM (wy a)|.zP,a,.sD=>JM (! wy a)|.vp,a,.tup O=>Il (yn a&&Bgu yn) o [Ed,seO a O]|.vp,.int k,d=>Akh [IP,xC o d,T,Ed [Bej,p,AQ Ax k]]|_,_,_=>AJ
def vr(C:Fs)(i:Int):LI:=Bo (0<=i) C[JT]? Ad
def y_(o:sd):D->D->KL|.str s,.int i=>Aub (0<=i) [Akh,Qz s[JT]? c Ahu]|d,.int i=>(Dfn o d [Akh,Bcg i] [Akh,Ati Bnw λC=>vr C i])|_,_=>AJ
def xD:Aw->D->LI|0,.str s=>[Col,s=HX,Ahl 82,s=FN,Ahl 83,[Col,s=GB,Ahl 84,s=IL,Ahl 85,Ad]]|1,.int i=>[CH,0<=i/\i<=12,Ahl (Cc+JT),Ad]|2,.int i=>JX [JK,([(1,0),(2,7),(3,5),(4,2),(5,0),(6,1),(7,3),(8,1),(9,3),(10,4),(11,2),(12,5)]:Ann),i]|_,_=>none
def t3{J:Bq}(C:LJ)(B V:Nat):LJ:=(C.take V).drop B
def seP(o:sd)(d:D)(l h:Nat):KL:=match d with|.tup C=>Il (!((l==0||QO C)&&Bn BC h)) o [HJ,t3 C l h]|.uh C=>Mn [JX,t3 C l h]|d=>(Com (uS o d) [Mn,t3 C l h])
def ux(o:sd)(d B V:D):KL:=match B,V with|.int l,.int h=>[Bo,0<=l/\0<=h,seP o d [Ga,l] [Ga,h],AJ]|_,_=>AJ
def sgR(o:sd):D->Aai|.str s=>[Bo,Qc<=uq,Ae Qc,Ad]|d=>(match tP o d with|some C=>some C.length|none=>(xC o d).map (·.length))
def v8(i:Int):Ao->Ao|[]=>[i]|j::r=>[Bo,i<=j,i::j::r,j::v8 i r]
def yo(l:Ao):Ao:=l.foldr v8 []
def sgS(n:Nat):Ak:=Bp (Nat.toDigits 10 n) (·.toNat)
def vL(i:Int):Ak:=(Bem (i<0) [45] [])++sgS [AX,i]
def wa(s:Ak):Qb->Ak|[]=>[]|[x]=>x|x::r=>x++s++wa s r
def xE(i:Int):Aw:=[Bo,i=0,0,Bpg i+1]
def vv(o:sd):sbL->Fs->KL|.len,[d]=>Akh [Nz,sgR o d,Cms [AZ,n]]|.abs,[.int i]=>JL ([Gz,i<0,-i,i])|.max,[.int i,.int j]=>JL [Cv,j>i,j,i]|.divmod,[.int i,.int j]=>[Il,Bl 0 j,o,PK (i/j) (i%j)]|.sum,[.lst C]=>Akh [IP,Bgl,l,AZ l.sum]|.sorted,[.lst C]=>(match Bgl with|some l=>v7 (Bl Ah 64) o [DK,JX (yo l)]|none=>AJ)|.all,[.lst C]=>Akh [IP,sbO C,l,Ed (l.all id)]|.any,[.lst C]=>Akh [IP,sbO C,l,Ed (l.any id)]|.tuple,[.lst C]=>BN KG|.str,[.int i]=>[Il,Azm i,o,Ft Bmr]|.ord,[.str [c]]=>JL c|.yk,[.int i]=>JL (xE i)|.join,[.str s,.lst C]=>(match zU C with|some l=>v7 (decide ((l.map (·.length)).sum+l.length*s.length<=uq)) o (.str (wa s l))|none=>.stuck)|_,_=>AJ
def sC:Aw->NC Fs (Ao)|0,[]=>Ae [-1]|1,[]=>Ae [-2]|2,[]=>Ae [-3]|3,[]=>Ae [-3]|4,[]=>Ae [-4]|5,[]=>Ae [-5]|6,[.int p]=>Ae [-6,1,p]|7,[]=>Ae [-9]|_,_=>none
def sjn:Aw->Aw|0=>4|1=>3|2=>4|3=>3|4=>3|_=>0
def sbQ:Aw->NC Fs (Fs)|5,[t]=>Ae [t,Pm]|6,[]=>Ae [Bt]|_,_=>none
inductive sN where|fix(xs:EV D D)|seq(d:D)|enum(d:D)
def sN.turn(o:sd)(k:Nat):sN->sA (Jz (D×D))|.fix C=>Fw Aik|.seq d=>Akh [IP,Bnw,C,Qz Aik x [DA,x]]|.enum d=>Akh [IP,Bnw,C,Qz Aik x (AZ k,x)]
def sN.size(o:sd):sN->Aw|.fix C=>C.length|.seq d=>An ((Bnw).getD [])|.enum d=>An ((Bnw).getD [])
abbrev uF:=Aw->Fs->sd->KL
def sbR(o:sd):D->sA Bh|.bl b=>Fw b|_=>AJ
def wY(s:sd)(o:D)(c i:Nat)(v:D):Jz sd:=match o with|.cell a=>Cob s[a]? [CH,O=c/\i<KN,As (s.set a (Ll c (I.set i v))),Ad]|_=>none
def t4:BU D|.cell _=>false|.sG _ _=>false|_=>true
def yp:BU D|.sG _ _=>false|_=>true
def uj(A:sM)(i:Nat):LI:=A[i]?.bind id
def uT(o:sd)(a:Nat):Bh:=match Ail with|some (.lst _)=>true|_=>false
def sA.wZ{J:Bq}:sA J->sA J|.ok a o=>Fw a|_=>AJ
def tH(c:sM->sd->sA Bh)(f:sM->sd->KL)(i j:Nat)(A:sM)(s:sN):Aw->Aw->sd->sA (Fs)|0,k,B=>Afr (Aga B) o B (Cyd [Ew,[],B])|n+1,k,B=>Afr (Aga B) o B [Cyc,Ew [] B,let U:=Aoh;[Bjq,c U B,KW B [DZ,b=Aa,Bjq (f U B) λv B=>([Ajb,Ajs=Aa,Afr (tH c f i j A s n (k+1) B) J B [JI,v::J,B]]),tH c f i j A s n (k+1) B]]]
section
variable(cl:uF)
mutual
def ev:E->sM->sd->KL|.var i,A,F=>tG F (Axi)|.ao i,A,F=>Apo Axi (match F[a]? with|some (.lst C)=>Dr Fo [Cdc,Adx]|some (.dict T)=>[Dr,Pw T,Cdc Adx]|_=>AJ) AJ|.lit d,_,F=>Jd F|.bin o a b,A,F=>Ayy a b y (sbP F o x y)|.neg a,A,F=>RL a (Dak [Pe,Byu i])|.not a,A,F=>RL a [Hv,Blf,b,Pe [Ed,! b]]|.cmp o a b,A,F=>Ayy a b y (zV F o x y)|.chain a b c,A,F=>Ayy a b y [Hv,zV F .le x y,p,Hv (sbR F p) p [Gz,p=Aa,Cfp c F z (zV F .le y z),Pe Bzi]]|.and R,A,F=>sbS R A F|.or R,A,F=>sbT R A F|.ite c a b,A,F=>RL c [Hv,Blf,p,[Bo,p=Aa,ev a A F,ev b A F]]|.tup R,A,F=>[Hv,uy R A F,C,Il QG F KG]|.list R,A,F=>[Hv,uy R A F,C,Il QG F Fo]|.new R,A,F=>Hv (uy R A F) C [Il,QG,(F++[Fo]),FX Axo]|.sbM,_,F=>[Dr,FX Axo,F++[Pw []]]|.idx a b,A,F=>Ayy a b y (y_ F x y)|.tab t b,A,F=>Cfp b F y (tG F (xD t y))|.zQ a V,A,F=>Ayy a V h (ux F x GO h)|.zR a B,A,F=>Ayy a B l ([Com,tP F x,ux F x l (AZ BC)])|.sl a B V,A,F=>Ayy a B l [Cfp,V,F,h,ux F x l h]|.fld a c i,A,F=>RL a (tG F ([Ati,wx F c x,FF i]))|.call f R,A,F=>[Hv,uy R A F,C,cl f C F]|.wV a R,A,F=>RL a [Hv,uy R A F,C,(Cxz (cl f C F) [Ajb,QG=Aa,(cl f (C++J) F).wZ])]|.zS f a R,A,F=>RL a [Hv,uy R A F,C,cl f (x::C) F]|.mk c R,A,F=>Hv (uy R A F) C [Il,QG&&(sjn c==BC),F,Ll c C]|.yl c R,A,F=>Hv (uy R A F) C (Con (sbQ c C) [Il,Bka,(F++[Ll c I]),FX Axo])|.prim p R,A,F=>[Hv,uy R A F,C,vv F p C]|.comp M i j b,A,F=>Hv (xF M A F) s [Hv,tH [KJ,F,Ew Aa F] (λA F=>ev b A F) i j A s (Avr F) 0 F,C,Pe Fo]|.yZ M i j c b,A,F=>Hv (xF M A F) s [Hv,tH (λA F=>RL c Blf) (λA F=>ev b A F) i j A s (Avr F) 0 F,C,Pe Fo]|.lam f uo,A,F=>(Cpj (uo.mapM (uj A)) [Bo,Ckd=Aa,Pe (.sG f J),AJ])|.sbN a b,A,F=>Ayy a b y (Czh [Il,Azm x&&Azm y,F,Ft (vL x++47::vL y)])termination_by structural e=>e
def uy:Es->sM->sd->sA (Fs)|.nil,_,F=>Ew [] F|.cons e R,A,F=>RL e [Hv,uy R A F,C,Pe (x::C)]termination_by structural e=>e
def sbS:Es->sM->sd->KL|.nil,_,_=>AJ|.cons e R,A,F=>RL e [Hv,Blf,b,(Dal Mz F [Bo,b=Aa,sbS R A F,Pe Bzi])]termination_by structural e=>e
def sbT:Es->sM->sd->KL|.nil,_,_=>AJ|.cons e R,A,F=>RL e [Hv,Blf,b,(Dal Mz F [Bo,b=Aa,Pe Chc,sbT R A F])]termination_by structural e=>e
def xF:It->sM->sd->sA sN|.seq e,A,F=>RL e (match x with|.str s=>Pe [Ly,(s.map λc=>DA Ahu)]|d=>Pe Axs)|.range e,A,F=>RL e (Dak [Il,Qk i&&Azl i,F,Ly (Bro JT [Bin,Ahp k])])|.enum e,A,F=>RL e [Pe,Qd x]|.zip a b,A,F=>Ayy a b y (Cxj [Pe,Ly (Awg)] [Pe,Ly (Awg)])|.keys e,A,F=>RL e (match x with|.dict T=>Pe [Ly,(T.map λp=>Cnt)]|_=>AJ)termination_by structural e=>e
end
inductive yq where|next(ρ:sM)|ret(d:D)deriving Repr
def y8(c:sM->sd->sA Bh)(b:sM->sd->Mr):Aw->sM->sd->Mr|0,_,_=>AJ|n+1,A,o=>Afr (c A o) p o [DZ,p=Aa,Afr (b A o) i o ([Bxn,y8 c b n A o,BN Bbh]),Arq A]
def uG(f:D->D->sM->sd->Mr)(s:sN):Aw->Aw->sM->sd->Mr|0,k,A,B=>Afr (Aga B) o B (Cyd [DJ,A,B])|n+1,k,A,B=>Afr (Aga B) o B [Cyc,DJ A B,Afr (f x y A B) i B ([Bxn,uG f s n (k+1) A B,JI Bbh B])]
variable(m:Nat)
mutual
def ex:S->sM->sd->Mr|.set i e,A,F=>Aal e A F v [DJ,(MS Abe),F]|.saU o c i e,A,F=>Aal e A F v [Aal,o,A,F,x,DZ (Ajs=Aa) (match wY F x c i v with|some F=>DJ A F|none=>AJ) AJ]|.sdm o c i e,A,F=>Aal o A F x (match[Ati,wx F c x,FF i]with|some (.int a)=>Aal e A F v (Cpc (match wY F x c i (Ec (a+b))with|some F=>DJ A F|none=>AJ))|_=>AJ)|.aug i e,A,F=>Cpg Axi [Aal,e,A,F,v,(Cpc [DJ,(MS (Dv (a+b))),F])] AJ|.put i k v,A,F=>Aal v A F v [Aal,k,A,F,k,(match Axi,k with|some (.cell a),.int k=>(match F[a]? with|some (.dict T)=>if Bvj (Bcg k)&&(Ajs&&Bl Mi BI)then DJ A (Cdc (Pw (T++[(k,v)])))else AJ|_=>AJ)|_,_=>AJ)]|.app i e,A,F=>Apo Axi [DZ,uT F a=Aa,Aal e A F v (Dam F[a]? (if Ajs&&Bl BC uq then DJ A (Cdc [DK,C++[v]])else AJ)),AJ] AJ|.ext i e,A,F=>Apo Axi [DZ,uT F a=Aa,Aal e A F v (Cyl F[a]? [Aub,sY BC LF=Aa,DJ A (Cdc [DK,C++O])]),AJ] AJ|.expr e,A,F=>Aal e A F _ [DJ,A,F]|.ret e,A,F=>Aal e A F v [Pe,NV v]|.raise k R,A,F=>Hv (uy cl R A F) C ([Cfj,sC k C,CM x F,AJ])|.ite c a b,A,F=>Aal c A F x [Hv,Blf,p,[Bo,p=Aa,saW a A F,saW b A F]]|.wW c b,A,F=>y8 (λA F=>Aal c A F x Blf) (λA F=>saW b A F) m A F|.xB i M b,A,F=>[Hv,xF cl M A F,s,uG (λx _ A F=>saW b (Bcf) F) s (Avr F) 0 A F]|.ww i j M b,A,F=>[Hv,xF cl M A F,s,uG (λx y A F=>saW b (Aoh) F) s (Avr F) 0 A F]|.zT i e,A,F=>(match ev cl e A F with|.ok d F=>JI Bbh F|.err x F=>Pe [Pt,Cns]|.stuck=>AJ)termination_by structural s=>s
def saW:Ss->sM->sd->Mr|.nil,A,F=>DJ A F|.cons s B,A,F=>Hv (ex s A F) f (match f with|.next A=>saW B A F|.ret d=>JI Bbh F)termination_by structural s=>s
end
end
structure Fn where
 np:Aw
 ns:Aw
 body:Ss
def sdn(n:Nat):Mr->KL|.ok (.next _) o=>Ew Bt (o.take n)|.ok (.ret d) o=>[Aub,Abi=Aa,Jd (o.take n)]|.err x o=>CM x (o.take n)|.stuck=>AJ
def zW(r:uF)(m:Nat)(f:Fn)(B:Fs)(o:sd):KL:=Aub (RJ=f.np) [Awq,Ml r f.body (B.map Aul++Azb (f.ns-f.np)) o]
def y9(zb:Bhs Fn)(m:Nat):Aw->uF|0,_,_,_=>AJ|n+1,f,B,o=>([Con,zb f,Az I])
end Core
namespace Core
def sgT:Fn:=Azu (.mk 0 [Kn,Buk,NX 0 1,LV (NX 0 2) AL])
def seQ:Fn:=Px 2 3 [Bpt,.yZ (Aim) 2 99 (Bhc (Gf Bj 0)) Bj]
def seR:Fn:=PH 2 4 (.ww 2 3 (Qd Bf) [Bvi,(Bhc (Gf BJ 1)),Cky]) Alt
def sgU:Fn:=Azu [Oq,Gf (Bmj) 0,Alo]
def sbU:Fn:=PH 2 3 [Ahn,Gf (Bmj) 0,Bcq,Bwa (Gf (Bmj) 2) 2 [Axk,3]] [Asa,3]
def sbV:Fn:=Px 3 3 [Akz,[PN,.vp,Gf (Bmj) 0,Gc Bkm Ara],Afx .vp Bj [Gf,(Bmj),2]]
def sgV:Fn:=PH 3 3 [Jj,[Akz,Asa 3,Axk 3],Caw] [QJ,Iw 5 Ago,Iw 5 [LV,Bj,AL]]
def sgW:Fn:=LR 3 [QU,0,Cli,.wW (Auc .ne AL) [QU,2,Bbs .mod Bf,.set 0 AL,F_ 1 Df],Cav]
def sgX:Fn:=Px 1 1 [Afx,.le,Bf,EM 25]
def seS:Fn:=Px 1 1 [Bgj,QL,Bf,(EM GV)]
def sgY:Fn:=Px 1 1 [PN,.le,Cli,EM GV]
def sbW:Fn:=Am 1 2 [Axl,Ahn Buk Bcq Caw,Ahn Buk Alo [Bwa,(Aom),1,Adt 10],Bwa (Aom) 1 [Adt,9]]
def sgZ:Fn:=LR 2 [FA,OD [Afx,.ge,AL,Kw] 4]
def sbX:Fn:=Am 1 2 [QA,OD [QJ,Ahz Kw [EM,24],Ahz [Rb,1,Ara] Asb] 2,Cer [Bwa,Bf,1,Cmq] 2,Cav]
def zX:Fn:=Am 4 7 [Kn,OD [QJ,Ahd [HR,8,Bj],Afx .gt BJ Clb] 0,Cxc,[Fz,4,Gc Df EL,5,Rb 2 Dg,[Mm,OD [Akz,Afx .zP CQ Alt,Bkt CQ AL] 5,6,Bmj,Bao [ED,[ED,.zQ Bf AL,Bjc [Amw,0,Gf H_ 0,Dg,Gf H_ 2,Gf H_ 3]],.zR Bf (So AL Fe)]]]]
def sg_:Fn:=LR 6 [Axl,.set 2 .sbM,.ww 3 4 (Qd Bf) [Bvi,(Akz [Bkt,BJ,AL] [Bwa,(Gf CT 2),5,.cmp .vp CQ Bj]),.put 2 BJ (Bdh)],Bss]
def sdo:Fn:=LR 7 [Mm,Cxc,2,Asa 15,Akp 3 Bbz (.xB 4 (.keys Bj) [Axj,5,Bkr Dg,Rg 3 [Amw,0,Btg,Awc 1,Avt Art (Awc 2) 6 [Acf,Bj,JE],Bth]]) [Bif,OD [Oq,Apu 1 BJ Bkm,Fg] 2,Ckv]]
def seT:Fn:=Am 1 3 [Mm,Jj [Axm,Bf] Fg,1,Ahk QL [Als,(ED [Ld,.yk,Ava] Fe),Mq],[QU,2,Als (So AL [Bbs,Bvk,Bf]) Mq,.wW (.cmp .lt Bj AL) [Axj,1,Df,F_ 2 [Als,(So AL [Bbs,Bvk,Bf]),Mq]],Awa]]
def sg0:Fn:=Am 3 5 [Rc,3,Ge (Bed) [Ayp,PN .ge Bed Fg,(SJ),(Aly)],4,Ge (Cbq) [Ayp,PN .ge Cbq Fg,(Aly),(SJ)],[Gc,Bdg BJ Df,.neg (Bdg (.neg CT) Df)]]
def seU:Fn:=Am 3 6 [Mm,Ahn Kw Fe [Gc,Ahk (Bed) Df,Ahk (Bed) Df],3,Als (Kw) Mq,[Rc,4,KZ 19 (.zQ Bf BJ) Ago,5,Aqd 18 (KZ 19 (.zR Bf BJ) Ago) [Acf,AL,Ot (Ld .yk NH) Fe] Df,Gc [ED,Bcu,Ko CQ] [ED,Bda,Og CQ]]]
def sg1:Fn:=LR 7 [Bhy,2,Bbz,.xB 3 (Aim) [Fz,4,FW 19 BJ [LV,Bj,AL],5,HR 17 (Btf (Ces Bcu Fg)),Axj 6 [ED,HR 17 (Btf (Bda)),Fe] [Rg,2,Gc JC JE]],Bss]
def sdp:Fn:=PH 1 1 [Jj,Axm Bf,Fg] [Ayp,Auc .gt Bf,QL,(Cap)]
def sg2:Fn:=Azu [So,Bf,Ge (Ahq Fg) [Ot,AL,Kw]]
def sg3:Fn:=Px 1 1 (.zQ Bf (Als (Kw) Mq))
def sg4:Fn:=Px 1 1 (.zR Bf (Als (Kw) Mq))
def sg5:Fn:=Azu [Acf,AL,Ot (Aut .yk Kw) Mq]
def sg6:Fn:=Aeh 2 5 2 [Ces,Kw,Clc] [Aut,Art,.comp (.zip (Axk 22) (Aix 22 HW)) 3 4 (Bmb Dg)]
def sg7:Fn:=Px 2 3 [Avt,Art,AL,2,Ge Bf Df]
def sg8:Fn:=Azu [Rb,26,KZ 27 Cap Nb]
def sbY:Fn:=Am 3 8 [Kn,Jj [PN,.lt,Kw,Clc] [Aix,29,LV Bf (Df)],Ahn Kw Fe [Ahq,Ge (Bed) SJ],[Fz,3,Nk 23,4,Nk 24,Mm [Jj,PN .lt Clc Kw,[ED,FW 29 BJ Ago,FW 29 CT Ago]] 5 [Adt,23] [Rc,6,Adt 24,7,Aoe [Aaw,BJ,JC,Df] [Aaw,(Aaw CT JE Df),Axk 25,Df],ED Alb [Aoe,Aaw BJ JE Df,Aaw CT JC Df]]]]
def sg9:Fn:=Azu [Iw,29,LV Bf AL]
def sha:Fn:=Aeh 3 4 3 [Ahk,QL,Df] [ED,Iw 22 NH,Aix 22 NH]
def saX:Fn:=LR 7 [Mm,Ahn Kw Fe [HR,21,(Bed)],2,Nk 23,[Fz,3,Nk 24,4,FW 32 Bj Nb,[Akp,5,FW 32 BJ Nb,Jj [QJ,Axm CQ,Akj CT CQ] Dg,Mm [Bap,(Cmr),NV CQ] 6 [KZ,29,FW 30 BJ Nb,LV (Asa 25) AL] [Bao,Ge CT [KZ,32,Agv 28 [FW,30,Bj,Nb] JE,Nb]]]]]
def sdq:Fn:=Am 4 9 [Fz,4,FW 20 Bj NH,5,QP 19 Dg EL,[Akp,6,Aqd 19 AL Dg EL,Jj [PN,.le,Ko H_,Fg] Alt,Fz 7 [Bki,.divmod,Ahk (Ces [Ko,CQ] Fg) [EM,FL],Og H_] 8 [Als,(Ahk (Og CQ) [EM,FL]),Ko H_] [Bif,Jj [Ahz,Ot (Kz) [Ko,Asq],Fe] Alt,BH [QA,Ko Asq,Kz,Ahz [Og,Asq] Fg]]]]
def shb:Fn:=Px 4 4 [KZ,32,[Agv,28,KZ 27 [Ahk,QL,EM FL] Ava,FW 27 BJ Nb],HW]
def sdr:Fn:=Am 3 8 [Fz,3,EM 1200,4,Iw 33 [Sm,AL,Bj,NH],[Mm,.wW (Afx .is CT Alt) [Axj,3,Ge (Mq) EL,F_ 4 [Iw,33,Sm AL Bj NH]],5,Bcu,Akp 6 Bda [Jj,[Akz,Akj CQ (JE),Bhz CT (Adg)],Gc JC Caw] [Bhy,7,Iw 34 [Sm,AL,Bj,FA JE],Jj [PN,.ge,Alb,Fg] [Gc,JE,Ahz Alb Fg],Gc JC [QJ,Bhz CT (Adg),Ahz [Iw,34,Sm AL Bj Qm] Fg]]]]
def sbZ:Fn:=Am 6 6 [Agx,Jj [Axm,CQ] [QJ,.cmp .gt AL Bj,[Akz,Akj AL Bj,QJ EL [Oq,Sn .mod Bf Mq,Fe]]],Axl [Jj,Akj CQ (Fe),Akz Dg [QJ,Auc .gt AL,EL]] [Jj,Akj CQ (Mq),Akz (.not CT) [QJ,Auc .gt AL,EL]] Cla]
def seV:Fn:=Am 4 8 [Fz,4,Ces [Ot,(Ld .yk Ava),EM 53] Fe,5,Bdg Bf Dg,Akp 6 [Ot,Bf,Ahk CQ Dg] [Bap,(FW 36 CQ [NT,H_,Akk [Ahk,QL,Ot CT Fe] AL [Fc,Df,EL]]),.aug 5 QL] [Bif,F_ 7 [ED,Ahk (Ot CT Fe) [EM,52],JC],.ite Bj (ED Alb [Ahk,QL,EM 63]) Asq]]
def seW:Fn:=Am 4 6 [Btz,4,Axk 32,[Mm,Jj Cmr Fg,5,KZ 35 [FW,27,CT,Ava] Ago,Bao [KZ,37,Ko CQ,[Kn,Og CQ,Auc .lt CT,NH]]]]
def shc:Fn:=LR 5 [QU,2,Ahq Fe,.ww 3 4 (Qd (NX 2 1)) [Bvi,(Oq [Sn,Bvl,(Bdg AL EL),Fe] Fe),F_ 2 [Aaw,Bj,Dg,Ayf]],Cky]
def shd:Fn:=[Aeh,3,4,3,Rb 39 [Sn,.bxor,Bj,Lw AL 2],.mk 1 [Kn,Aaw (Lw AL 0) EL Ayf,Aaw (Lw AL 1) EL Ayf,HW]]
def she:Fn:=Am 3 6 [Fz,3,Sn .bor (Lw (Cgr (Bob)) 2) [Lw,(Acf (Bob) Df),2],4,QP 40 [Cgr,(Bob)] EL,[Bif,F_ 5 [QP,40,Acf (Bob) Df,EL],Awm 3 Dg [Agv,28,Lw CQ 0,Lw CT 0] [Agv,28,Lw CQ 1,Lw CT 1]]]
def shf:Fn:=Aeh 3 4 3 [Awm,1,Lw AL 0,Lw AL 1,Sn .bor (Lw AL 2) [Ahk,QL,Bpt Bob]] (.mk 2 [Ary,ED Bob [PY,NH],[ED,NX 2 1,PY HW],Ayf,NX 2 3])
def shg:Fn:=Px 3 3 [QP,42,[Awm,1,BH Nb,BH HW,Fg],Ahq Fe]
def shh:Fn:=Am 4 11 [Fz,4,Ko BJ,5,Og BJ,Fz 6 [ED,Ge CQ JC,Ge CT Dg] 7 [Cgr,(Bob)] [Btz,8,Apu 27 Bj [Rb,39,Ccu],Rc 9 [Aoe,Apu 27 H_ Cni,Ajc [Ot,(Ge CQ JC),Ge CT Dg] Kz] 10 [Aoe,Apu 27 H_ Cnh,Ajc [Ge,(Ge (Mq) Dg),JC] Kz] [QP,42,Awm 1 Ahx Btl Ccu,Ahq JE]]]
def shi:Fn:=Am 5 14 [Fz,5,Iw 41 Ago,6,HQ CQ 3 0,[Fz,7,Ge (Og BJ) Bda,8,Ge (Ko BJ) Bda,Fz 9 [Ge,(Bcu),Og BJ] 10 [Agv,28,Ajc Kz [HQ,CQ,3,1],Ajc Ahx [HQ,CQ,3,2]] [Fz,11,Aoe [Ajc,Kz,HQ CQ 3 2] [Ajc,Ahx,HQ CQ 3 1],12,Aoe [Ajc,Alb,Lw H_ 0] Btl,Bif [F_,13,Aoe [Ajc,Alb,Lw H_ 1] [Jx,11]] [QP,42,[Awm,1,Cno,Jx 13,Lw H_ 2],Ahq Alb]]]]
def shj:Fn:=Am 5 16 [Fz,5,Ayf,6,Iw 41 Ago,Fz 7 [Aua,3,0] 8 [KZ,30,Rb 39 Ccu,Qm] [Fz,9,Aoe [KZ,30,Aua 3 1,Qm] [KZ,30,Aua 3 2,Qm],10,Aoe Ahx [Ajc,Ot (Ge BJ EL) [Ge,CT,Dg],Kz],Fz 11 [Agv,28,[Ajc,Ge (Ge (EM 4) EL) EL,Aaw (Ahx) Kz JC],KZ 30 Btl Qm] 12 [Ajc,Mq,Ahx] [Btz,13,Aoe [Aaw,(Cno),Cni,JC] [Aaw,(Btl),Aua 3 1,JC],Rc 14 [Aoe,Aaw (Cno) Cnh JC,Aaw (Btl) [Aua,3,2] JC] 15 [Awm,1,Jx 13,Jx 14,Ccu] [Awm,4,Jx 11,[Awm,3,Jx 15,Ajc Cap [Aua,3,2],Aua 3 1],Cno]]]]
def shk:Fn:=Aeh 3 4 3 [QP,42,HQ (Azz 4 1) 3 0,Azz 4 2] (.mk 2 [Ary,HQ BJ 2 0,HQ BJ 2 1,HQ BJ 2 2,[ED,HQ BJ 2 3,BH HW]])
def shm:Fn:=Am 3 9 [Fz,3,Bpt Ayf,4,HQ (Azz 4 1) 3 0,Fz 5 [Ayp,Axm Bj,QL,(Cap)] 6 [Aqd,31,(Lw CT 0),Apu 27 CQ [HQ,(Azz 4 1),3,1],EL] [Rc,7,Aqd 31 (Lw CT 1) [Apu,27,CQ,HQ (Azz 4 1) 3 2] EL,8,QP 42 [Awm,1,JE,Alb,Lw CT 2] [Azz,4,2],[Amw,2,HQ (Kz) 2 0,HQ (Kz) 2 1,ED [HQ,(Kz),2,2] [Ahq,Azz 4 0],[ED,HQ (Kz) 2 3,BH HW]]]]
def sb_:Fn:=Am 3 6 [Fz,3,Iw 46 [Ary,Ko Aov,Og Aov,Ko (Aod),Og (Aod)],4,Agv 32 [HQ,BJ,4,0] Ayf,Axl [Jj,Auc .gt CT,Lz Bj 5 [QP,48,EL,JC]] [Jj,[QJ,Auc .lt CT,Oq [Agv,32,HQ BJ 4 2,Ayf] Fg],PY BY] [Bjc,QP 47 EL [Ko,Bj]]]
def sb0:Fn:=Am 4 5 [Akp,4,Aod,Ahn Btd Alo [Bjc,QP 43 Bcu Bda],[Axl,Ahn Btd Bkm [Bjc,Iw 44 [Kn,Ko Aov,Bcu,HW]],Ahn Btd Bcq [Bjc,Iw 45 [Ary,Ko Aov,Og Aov,Bcu,Bda]],Blj 49 [Acf,BJ,Bpt [NX,2,3]]]]
def shn:Fn:=Am 3 7 [QU,3,Bjc (.mk 2 [Ary,PY BY,PY BY,Cat,Cat]),.xB 4 (Aim) [QU,5,Bbz,Cop 6 (MN BJ) (.ext 5 (FW 50 H_ [Akk,Dg,AL,HW])),F_ 3 (.ao 5)],Ckz]
def sho:Fn:=Px 1 3 [Aut,.sum,.comp (Qd (NX 2 3)) 1 2 (Btf Bj)]
def shp:Fn:=LR 2 [FA,OD (.or [QA,Ahz Cli Clb,Ahz [Bqo,Nb] Clb,[Akz,Axm Bf,Axm AL]]) 0]
def seX:Fn:=Am 3 5 [Mm,Bih [Aix,53,HW],3,QP 51 Cau [Ge,(Ahq [Aft,CN GO Afa]),Asb],Bao [Avt,.sorted,BJ,4,HR 52 CT]]
def sds:Fn:=Am 3 5 [Agx,OD [Bfo,Bdg Bj [Rb,1,Ara],Fg] 3,[Bhy,3,Blj 51 [Coz,(Buo (Asb)),4,Ahq [Sn,Bvl,(Bdg Bj Dg),Fe]],OD [Oq,Bxe NH,Fg] 3,Ko BJ]]
def saY:Fn:=Am 6 10 [Kn,Bih [Aix,53,HW],OD [Afx,.gt,CQ,Asb] 0,Mm [Bih,Rb 12 Dg] 6 [QP,55,Cau,EL] [Rc,7,Acf (Aua 2 0) Dg,8,Apu 39 H_ Ccu,Lz (Gc Cni Cnh) 9 [KZ,38,Ahx,Kn Kz [Aua,2,2] Qm]]]
def sb1:Fn:=[PH,3,3,Bap (Bfo Buk Alo) Cav,Rb 0 [Gc,Bbs .add (Ko (Aom)),ED [Og,(Aom)] Df]]
def sb2:Fn:=[PH,1,1,Bap (Bfo Buk Alo) Cav,Rb 0 [Gc,.neg (Og (Aom)),Ko (Aom)]]
def sdt:Fn:=[PH,2,3,Bap (Oq Buk Bcq) Cav,Rb 0 [Avt,Art,(Aom),2,Ge AL Df]]
def sb3:Fn:=PH 3 4 [OD,QJ [Ahz,Bqo Nb,EM 2000] [Ahz,Bqo HW,EM 2000],0] [HR,13,(Lz Bf 3 [FW,57,BJ,Ago])]
def shq:Fn:=Px 1 2 [Lz,Bf,1,Adt 58]
def sdu:Fn:=PH 2 3 [Cer,Adt 9,0] [HR,13,(Lz Bf 2 [FW,59,Bj,Nb])]
def sb4:Fn:=[PH,2,2,Jj [QJ,Ahz Cli Clb,Ahd [Bgj,QL,AL,(EM 20)]] Cla,.and [QA,Oq [Asa,7] Fe,Auc .ne Bf,Bkt Bf AL]]
def sb5:Fn:=Am 3 3 [QA,Cxc,Bih [Axk,12],OD [Akj,AL,Bj] 4]
def seY:Fn:=Am 3 6 [QU,3,Coz (Buo Bj) 4 [Ced,Dg],OD [Avt,.any,BJ,5,PN .zP [Iw,2,Qm] Alt] 5,Ckz]
def zc:Fn:=Am 8 11 [Kn,Cer (.and [QA,HR 8 Asq,HR 9 CQ,HR 9 H_]) 0,OD [QJ,Ahd [Apu,63,BJ,Dg],Bfo [Sn,.mod,CQ,Dg] Fg] 0,Mm [Bih,Iw 64 Ago] 8 [QP,65,Alb,EM 4] [Rc,9,Kw,10,Ge (Aut .abs [Ot,BJ,Dg]) [Als,CQ,Dg],HR 13 (So Bf [PY,[Ary,[Amw,0,Ara,Ko (Kz),Cau,Gc JC JE],[Amw,0,Bcq,Og (Kz),Ced Ahx,Gc Ayr [Aft,CN GO Afa]],Bek [Ary,Ara,Bhz (Kz) (Adg),Gc Df [ED,Ahx,Fe],Gc Btl JE],Bek [Ary,Bcq,Bhz (Kz) (Bry),[Gc,ED Ahx Fe,ED Ahx Mq],Gc Ayr [Aft,CN GO Afa]]]])]]
def saZ:Fn:=Am 6 8 [Kn,Cer (.and [Kn,HR 8 CQ,HR 9 BJ,[Fc,HR 9 CT,.cmp .lt CT BJ]]) 0,Bih [Iw,64,Ago],[Rc,6,QP 65 JC Asb,7,Kw,HR 13 (So Bf [PY,QA [Amw,0,Ara,Ko H_,Cau,Ayr] [Amw,0,Ara,Og H_,Cau,Ayr] [Amw,0,Ara,Bhz H_ (Adg),Gc Alb [ED,Alb,Fe],Gc Dg Dg]])]]
def seZ:Fn:=PH 1 1 [Ahn,Air,Bpt [NX,5,0],EM 256] [Acf,(NX 5 0),Air]
def shs:Fn:=Px 1 1 [Bgj,(Cbo),(Aqn),(EM 57)]
def se_:Fn:=LR 2 [Fc,Afq [Bkt,(Aqn),AL] Axh,Bag 5 1]
def sb6:Fn:=LR 4 [Akp,2,Air,Afq [QJ,Ahd Cco,Oq Aqn Cbo] HW,QU 3 Fg (.wW (Cco) [QA,Afq [Bhc,(Ot (Air) Df)] Axh,F_ 3 [Ot,(ED [Ge,BJ,EM 10] Aqn),Cbo],Bag 5 1]) Ckz]
def sa_:Fn:=Am 1 1 [Kn,[Jj,Bfo Aqn Cbo,Rb 71 Asb],Bag 5 1,Bif [Afq,Cco,Axh] Fg]
def zY:Fn:=Am 1 1 [Axl,Jj [Bfo,Aqn,EM 45] [Nk,72],Bag 5 1,.neg (Rb 71 Asb)]
def zd:Fn:=Am 1 4 [Fz,1,Air,2,Cle,Kn [Jj,Bfo Aqn [EM,47],Gc Df Fe] [Bag,5,1] [Bhy,3,Nk 72,Afq [QJ,Ahd [Bgj,(Mq),BJ,(EM 20)],Bfo [FW,7,Bj,NH] Fe] Nb,Gc Df EL]]
def ze:Fn:=Am 1 2 [Mm,Afq [Ahd,Bgj (EM 65) (Aqn) (EM 90)] Axh,1,Ot (Aqn) [EM,65],Axl [Bag,5,1] [Jj,Ahd Cco,Ced Fg] [Ced,Rb 71 Mq]]
def sjo:Fn:=Am 1 3 [Fc,Cop 1 (Et [Aft,BH [(Rh),(Mu),(IK),(PZ)]]) [Bdy,(Bgn),Aud 2 (Aeg),Awa],Bie 6 Axh]
def sb7:Fn:=LR 4 [Mm,Brt,2,Air,[QU,3,Nk 75,Afq [PN,.zP,Aix 2 NH,Alt] HW,Ckz]]
def sa0:Fn:=Am 3 5 [Mm,Brt,3,Air,Bhy 4 [Apu,2,AL,Nk 75] [Afq,QJ [Afx,.is,CT,Alt] [Ahd,.wV Bj [FA,Dg]],NH] Dg]
def sb8:Fn:=Am 1 3 [Mm,Brt,1,Air,QU 2 Cle [Afq,Ahd [HR,9,Bj],Nb] Cky]
def sdv:Fn:=PH 1 1 Brt [Nk,74]
def zZ:Fn:=LR 6 [Mm,Brt,2,Air,Akp 3 Cle Brt [Bhy,4,Cle,Afq [Avt,.any,AL,5,Cbk [Oq,Btg,Alo] Bth Ayr] HW,Ayr]]
def sdw:Fn:=Aeh 2 3 2 Clj [Bek,Akk Alo Bj [Fc,Cat,Asa 81]]
def sb9:Fn:=LR 4 [Rc,2,Clj,3,Blj 78 (.lam GH [1]),Bek [Akk,Bkm,Bj,Fc [HJ,EJ BJ] [Ahq,Nk 79]]]
def z_:Fn:=LR 7 [Fz,2,Clj,3,Blj 78 (.lam 116 []),Btz 4 [Nk,79] [Rc,5,Blj 78 (.lam 117 [3]),6,Nk 79,Bek [Akk,Ara,Bj,[Fc,Gc EL JC,Gc Dg JE]]]]
def z6:Fn:=LR 7 [Fz,2,Clj,3,Blj 78 (.lam 118 []),Btz 4 [Blj,78,.lam 119 [1,3]] [Rc,5,Nk 80,6,Nk 80,Bek [Akk,Bcq,Bj,Fc Ayr [Gc,JC,JE]]]]
def z7:Fn:=LR 2 [Axl,Jj [Cbk,Akj AL (Bkm),Asa 1,Fe] Cla,Jj [Cbk,Akj AL (Ara),Asa 1,Asb] Cla,PN .lt Kw [EM,24]]
def z8:Fn:=LR 6 [Fz,2,Air,3,Nk 76,[Mm,Afq [Ahd,Aix 86 NH] HW,4,.tab 0 BJ,[QU,5,.wV CT [LV,Bf,AL],Cqf [EM,10],NV CQ]]]
def sca:Fn:=Am 1 3 [Mm,OD [Ahz,Kw,EM 2048] 1,1,.yl 5 Ava,[Akp,2,Bbz,.wW (PN .lt [Azz,5,1] Kw) [FA,Rg 2 [Aix,87,HW]],Bif [Afq,Oq [Apu,1,Bj,Bkm] Fg,FA Kw] Bss]]
def se0:Fn:=Aeh 4 5 4 [PY,[QA,Amw 0 Alo [Aft,CN GO GO] Cat [Gc,Fg,Fg],Amw 0 Alo [Aft,CN Afa GO] Cat [BH,LV Bf (Fg)],Bek [Ary,Bkm,Aft [CN,(Adg),GO],Ahq Fe,BH Nb]]] [FW,67,CT,Agx Fg [Akk,Mq,Bj,Fc EL Asb]]
def sdx:Fn:=PH 3 3 [Cer,Nk 9,0] [Iw,89,Sm Bf AL HW]
def sa1:Fn:=PH 4 4 [OD,.or [QA,Ahd [Nk,9],Ahd [Adt,9],Bhc Bf],0] [Iw,89,Sm AL Bj NH]
def se1:Fn:=LR 3 [Bhy,2,Rb 7 [Bqo,Nb],Bap (Auc .lt AL) [F_,2,.neg Bj],PY [Fc,Als Bf Df,Als AL Df]]
def sht:Fn:=Am 4 6 [Rc,4,Ot (Ge Bj Df) [Ge,BJ,EL],5,Ot (.bin .mul Bf Bf) [Bbs,.mul,AL],ED [KZ,92,.bin .mul CT Bf,Qm] [Agv,92,Bbs .mul CT,Bqo Qm]]
def se2:Fn:=Aeh 1 2 1 [Acf,(Sw [65,66,67,68,69,70,71,72,73,74,75,76,77,78,79,80,81,82,83,84,85,86,87,88,89,90]),Bed] [Ayp,Oq Cbq Fg,AL,(So AL [Aut,LK,Cbq])]
def se3:Fn:=Am 1 3 [Rc,1,Bed,2,Cbq,Ayp [Akj,Bj,(Fe)] (Ld LK Nb) (.sbN AL Bj)]
def scb:Fn:=LR 9 [Fz,2,Lz Aov 6 [Bhd,(Gf (Bnl) 1)],3,.new [Fc,Btd,Bhd (Gf AL 1)],Agx [Ahn,Btd,Bcq,ED [Bmb,Df] [Lz,(Aod),7,HR 95 Asq]] [Axl,Ahn Btd Alo [Bmb,Lz (Aod) 8 [Aut,LK,Kz]],.ww 4 5 (.zip Bj (Aod)) [Fc,.app 3 CT,Rg 3 [Ld,LK,Qm]],Ckv]]
def shu:Fn:=Aeh 1 4 1 [Bki,Axt,Sw [],Lz Bf 2 [ED,Bki Axt [Sw,[32]] Cll,Sw [10]]] [Lz,AL,3,Cpe NH]
def se4:Fn:=[PH,1,1,OD [PN,.is,NX 6 0,Alt] 7,NX 6 0]
def shv:Fn:=[PH,2,2,.saU Bf 6 0 AL,Bjc Clc]
def sdy:Fn:=Bhh [Adt,88]
def se5:Fn:=[Aeh,2,3,2,HR 97 (Ase),ED [PY,Fc Bdh Bdh] Df]
def z9:Fn:=Aeh 2 3 2 Ase [Cnz,99,FW 66 Bj [Agx,SJ,Kn Aly Bko [Kn,Caz,Cxb,Fc [Byy,AZ 5] [Byy,AZ 6]]]]
def saa:Fn:=Bhh [KZ,67,Ase,Agx SJ [Kn,Aly,Bko,Fc Caz Cxb]]
def scc:Fn:=Bhh [Aqd,60,(Ase),SJ,Aly]
def se6:Fn:=Bhh [HR,61,(Ase)]
def scd:Fn:=Bhh [Agv,62,Ase,SJ]
def sa2:Fn:=Bhh [KZ,14,Ase,QA SJ Aly Bko]
def sce:Fn:=Bhh [Agv,16,Ase,SJ]
def se7:Fn:=Bhh [Aqd,90,(SJ),Aly,Bko]
def se8:Fn:=LR 4 [Rc,2,Cnz 99 [KZ,91,SJ,QA Aly Bko Caz],3,KZ 93 SJ [QA,Aly,Bko,Caz],ED [So,Bj,Bjc [Bxe,NH]] EL]
def sdz:Fn:=[Aeh,2,3,2,Aqd 54 (Ase) SJ Aly,ED [PY,Fc Bdh Bdh] Df]
def sa3:Fn:=Aeh 2 3 2 [KZ,56,Ase,Agx SJ [Kn,Aly,Bko,Fc Caz Cxb]] [ED,PY [Fc,Fg,Bdh],Df]
def se9:Fn:=Am 3 5 [Axj,3,.tab 1 AL,.zT 4 (.wV BJ [LV,Bf,(Df)])]
def shw:Fn:=Am 1 7 [Fz,1,.yl 6 BY,2,Bbz,Bhy 3 Fg (.wW (Afx .lt BJ Kw) [Fz,4,Bkr EL,5,Cln,Mm [Ayp,Cmr,[Axj,5,Bmb Mq,F_ 3 [So,CQ,Bkr Cln]],FA [F_,3,So CQ (.tab 2 CT)]] 6 [Aqd,113,AL,Dg,.sl Bf CQ BJ] [Fc,Rg 2 Cbt,.ext 2 H_]]) Bss]
def shx:Fn:=Azu [Aix,4,Ava]
def shy:Fn:=Px 1 1 Caw
def shz:Fn:=Azu [Bkt,Bf,AL]
def shA:Fn:=Px 1 1 Caw
def shB:Fn:=Px 3 3 [Akz,Bkt Bf Bj,Aix 6 [LV,Bj,Bf]]
def zb:Bhs Fn|0=>Ae sgT|1=>Ae seQ|2=>Ae seR|3=>Ae sgU|4=>Ae sbU|5=>Ae sbV|6=>Ae sgV|7=>Ae sgW|8=>Ae sgX|9=>Ae seS|10=>Ae sgY|11=>Ae sbW|12=>Ae sgZ|13=>Ae sbX|14=>Ae zX|15=>Ae sg_|16=>Ae sdo|17=>Ae seT|18=>Ae sg0|19=>Ae seU|20=>Ae sg1|21=>Ae sdp|22=>Ae sg2|23=>Ae sg3|24=>Ae sg4|25=>Ae sg5|26=>Ae sg6|27=>Ae sg7|28=>Ae sg8|29=>Ae sbY|30=>Ae sg9|31=>Ae sha|32=>Ae saX|33=>Ae sdq|34=>Ae shb|35=>Ae sdr|36=>Ae sbZ|37=>Ae seV|38=>Ae seW|39=>Ae shc|40=>Ae shd|41=>Ae she|42=>Ae shf|43=>Ae shg|44=>Ae shh|45=>Ae shi|46=>Ae shj|47=>Ae shk|48=>Ae shm|49=>Ae sb_|50=>Ae sb0|51=>Ae shn|52=>Ae sho|53=>Ae shp|54=>Ae seX|55=>Ae sds|56=>Ae saY|57=>Ae sb1|58=>Ae sb2|59=>Ae sdt|60=>Ae sb3|61=>Ae shq|62=>Ae sdu|63=>Ae sb4|64=>Ae sb5|65=>Ae seY|66=>Ae zc|67=>Ae saZ|68=>Ae seZ|69=>Ae shs|70=>Ae se_|71=>Ae sb6|72=>Ae sa_|73=>Ae zY|74=>Ae zd|75=>Ae ze|76=>Ae sjo|77=>Ae sb7|78=>Ae sa0|79=>Ae sb8|80=>Ae sdv|81=>Ae zZ|82=>Ae sdw|83=>Ae sb9|84=>Ae z_|85=>Ae z6|86=>Ae z7|87=>Ae z8|88=>Ae sca|89=>Ae se0|90=>Ae sdx|91=>Ae sa1|92=>Ae se1|93=>Ae sht|94=>Ae se2|95=>Ae se3|96=>Ae scb|97=>Ae shu|98=>Ae se4|99=>Ae shv|100=>Ae sdy|101=>Ae se5|102=>Ae z9|103=>Ae saa|104=>Ae scc|105=>Ae se6|106=>Ae scd|107=>Ae sa2|108=>Ae sce|109=>Ae se7|110=>Ae se8|111=>Ae sdz|112=>Ae sa3|113=>Ae se9|114=>Ae shw|115=>Ae shx|116=>Ae shy|117=>Ae shz|118=>Ae shA|119=>Ae shB|_=>none
def ahB:AB (n+1) 0=Az sgT:=rfl
def rP:AB (n+1) 1=Az seQ:=rfl
def ahC:AB (n+1) 2=Az seR:=rfl
def ahD:AB (n+1) 3=Az sgU:=rfl
def ahE:AB (n+1) 4=Az sbU:=rfl
def ahF:AB (n+1) 5=Az sbV:=rfl
def ahG:AB (n+1) 6=Az sgV:=rfl
def ahH:AB (n+1) 7=Az sgW:=rfl
def ahI:AB (n+1) 8=Az sgX:=rfl
def rQ:AB (n+1) 9=Az seS:=rfl
def ahJ:AB (n+1) 10=Az sgY:=rfl
def ahK:AB (n+1) 11=Az sbW:=rfl
def ahL:AB (n+1) 12=Az sgZ:=rfl
def ahM:AB (n+1) 13=Az sbX:=rfl
def ahN:AB (n+1) 14=Az zX:=rfl
def ahO:AB (n+1) 15=Az sg_:=rfl
def ahP:AB (n+1) 16=Az sdo:=rfl
def rR:AB (n+1) 17=Az seT:=rfl
def ahQ:AB (n+1) 18=Az sg0:=rfl
def rS:AB (n+1) 19=Az seU:=rfl
def ahR:AB (n+1) 20=Az sg1:=rfl
def ahS:AB (n+1) 21=Az sdp:=rfl
def ahT:AB (n+1) 22=Az sg2:=rfl
def ahU:AB (n+1) 23=Az sg3:=rfl
def ahV:AB (n+1) 24=Az sg4:=rfl
def ahW:AB (n+1) 25=Az sg5:=rfl
def ahX:AB (n+1) 26=Az sg6:=rfl
def ahY:AB (n+1) 27=Az sg7:=rfl
def ahZ:AB (n+1) 28=Az sg8:=rfl
def iH:AB (n+1) 29=Az sbY:=rfl
def ah_:AB (n+1) 30=Az sg9:=rfl
def ah0:AB (n+1) 31=Az sha:=rfl
def rT:AB (n+1) 32=Az saX:=rfl
def lR:AB (n+1) 33=Az sdq:=rfl
def ah1:AB (n+1) 34=Az shb:=rfl
def lS:AB (n+1) 35=Az sdr:=rfl
def ah2:AB (n+1) 36=Az sbZ:=rfl
def ah3:AB (n+1) 37=Az seV:=rfl
def rV:AB (n+1) 38=Az seW:=rfl
def ah4:AB (n+1) 39=Az shc:=rfl
def ah5:AB (n+1) 40=Az shd:=rfl
def ah6:AB (n+1) 41=Az she:=rfl
def ah7:AB (n+1) 42=Az shf:=rfl
def ah8:AB (n+1) 43=Az shg:=rfl
def ah9:AB (n+1) 44=Az shh:=rfl
def aia:AB (n+1) 45=Az shi:=rfl
def aib:AB (n+1) 46=Az shj:=rfl
def aic:AB (n+1) 47=Az shk:=rfl
def aid:AB (n+1) 48=Az shm:=rfl
def iI:AB (n+1) 49=Az sb_:=rfl
def iJ:AB (n+1) 50=Az sb0:=rfl
def aie:AB (n+1) 51=Az shn:=rfl
def aif:AB (n+1) 52=Az sho:=rfl
def aig:AB (n+1) 53=Az shp:=rfl
def rW:AB (n+1) 54=Az seX:=rfl
def lT:AB (n+1) 55=Az sds:=rfl
def gk:AB (n+1) 56=Az saY:=rfl
def aih:AB (n+1) 57=Az sb1:=rfl
def aii:AB (n+1) 58=Az sb2:=rfl
def aij:AB (n+1) 59=Az sdt:=rfl
def aik:AB (n+1) 60=Az sb3:=rfl
def ail:AB (n+1) 61=Az shq:=rfl
def aim:AB (n+1) 62=Az sdu:=rfl
def ain:AB (n+1) 63=Az sb4:=rfl
def aio:AB (n+1) 64=Az sb5:=rfl
def aip:AB (n+1) 65=Az seY:=rfl
def aiq:AB (n+1) 66=Az zc:=rfl
def air:AB (n+1) 67=Az saZ:=rfl
def ais:AB (n+1) 68=Az seZ:=rfl
def ait:AB (n+1) 69=Az shs:=rfl
def aiu:AB (n+1) 70=Az se_:=rfl
def aiv:AB (n+1) 71=Az sb6:=rfl
def aiw:AB (n+1) 72=Az sa_:=rfl
def aix:AB (n+1) 73=Az zY:=rfl
def aiy:AB (n+1) 74=Az zd:=rfl
def aiz:AB (n+1) 75=Az ze:=rfl
def aiA:AB (n+1) 76=Az sjo:=rfl
def aiB:AB (n+1) 77=Az sb7:=rfl
def aiC:AB (n+1) 78=Az sa0:=rfl
def aiD:AB (n+1) 79=Az sb8:=rfl
def aiE:AB (n+1) 80=Az sdv:=rfl
def aiF:AB (n+1) 81=Az zZ:=rfl
def aiG:AB (n+1) 82=Az sdw:=rfl
def aiH:AB (n+1) 83=Az sb9:=rfl
def aiI:AB (n+1) 84=Az z_:=rfl
def aiJ:AB (n+1) 85=Az z6:=rfl
def aiK:AB (n+1) 86=Az z7:=rfl
def aiL:AB (n+1) 87=Az z8:=rfl
def aiM:AB (n+1) 88=Az sca:=rfl
def rX:AB (n+1) 89=Az se0:=rfl
def aiN:AB (n+1) 90=Az sdx:=rfl
def aiO:AB (n+1) 91=Az sa1:=rfl
def aiP:AB (n+1) 92=Az se1:=rfl
def aiQ:AB (n+1) 93=Az sht:=rfl
def aiR:AB (n+1) 94=Az se2:=rfl
def aiS:AB (n+1) 95=Az se3:=rfl
def aiT:AB (n+1) 96=Az scb:=rfl
def aiU:AB (n+1) 97=Az shu:=rfl
def aiV:AB (n+1) 98=Az se4:=rfl
def aiW:AB (n+1) 99=Az shv:=rfl
def aiX:AB (n+1) Cc=Az sdy:=rfl
def aiY:AB (n+1) 101=Az se5:=rfl
def aiZ:AB (n+1) 102=Az z9:=rfl
def ai_:AB (n+1) 103=Az saa:=rfl
def ai0:AB (n+1) 104=Az scc:=rfl
def ai1:AB (n+1) 105=Az se6:=rfl
def ai2:AB (n+1) 106=Az scd:=rfl
def ai3:AB (n+1) 107=Az sa2:=rfl
def ai4:AB (n+1) 108=Az sce:=rfl
def ai5:AB (n+1) 109=Az se7:=rfl
def ai6:AB (n+1) 110=Az se8:=rfl
def ai7:AB (n+1) 111=Az sdz:=rfl
def ai8:AB (n+1) 112=Az sa3:=rfl
def ai9:AB (n+1) 113=Az se9:=rfl
def aja:AB (n+1) NY=Az shw:=rfl
def ajb:AB (n+1) GH=Az shx:=rfl
def ajc:AB (n+1) 116=Az shy:=rfl
def ajd:AB (n+1) 117=Az shz:=rfl
def aje:AB (n+1) 118=Az shA:=rfl
def ajf:AB (n+1) 119=Az shB:=rfl
end Core
namespace Alg
class OK(K:Bq)extends Lean.Grind.CommRing K,LE K,LT K where
 inv:K->K
 rat:Rat->K
 le_refl:∀a:K,a<=a
 le_trans:∀a b c:K,a<=b->b<=c->a<=c
 le_antisymm:∀a b:K,a<=b->b<=a->a=b
 le_total:∀a b:K,a<=b\/b<=a
 lt_iff:∀a b:K,a<b↔a<=b/\¬b<=a
 sdA:∀a b c:K,a<=b->a+c<=b+c
 ue:∀a b:K,0<=a->0<=b->0<=a*b
 one_pos:EY<1
 inv_mul:∀a:K,CV a->a*inv a=1
 wb:∀p q:Rat,DW (p+q)=DW p+Abd
 vM:∀p q:Rat,DW (p*q)=DW p*Abd
 uH:DW 1=1
 scf:Bnv p (0<=p->0<=DW p)
open OK
section
variable{K:Type}[OK K]
instance:Std.IsPreorder K where
 le_refl:=le_refl
 le_trans:=le_trans
instance:Std.IsLinearOrder K where
 le_antisymm:=le_antisymm
 le_total:=le_total
instance:Std.LawfulOrderLT K where
 lt_iff:=lt_iff
def asS{b:K}(h:¬a<=b):b<a:=Hg (lt_iff b a) Ag
def am{b:K}(h:a<b):a<=b:=((lt_iff a b).mp h).1
def rY{b:K}(h:a<=b):0<=b-a:=by
 let:=sdA _ _ (-a) h;rw[Tq,W,a+-a=0]
 rw[Tq,N,b+-a=b-a]
 grind
instance:Lean.Grind.OrderedAdd K where
 add_le_left_iff:=λ{a b}c=>Aj (sdA a b c) [GG,by
  let:=sdA _ _ (-c) h;rw[Tq,W,a+c+-c=a]
  rw[Tq,N,b+c+-c=b]
  rw[VW,W,N];rw[TQ]]
def bV{b:K}(M:CV a)(T:EW 0):CV (a*b):=GG (by
 let G:=inv_mul a M;let z:b=inv a*(a*b):=by
  let:inv a*(a*b)=(a*inv a)*b:=Aq
  rw[this,G];grind
 rw[h]at z;show T (DR z))
def bW{b:K}(h:a<b):a≠b:=Cbv
def cF{b:K}(h:a<=b)(n:a≠b):a<b:=Hg (lt_iff a b) Ag
def af{b:K}(M:0<a)(T:0<b):0<a*b:=cF (ue a b (am M) (am T)) [E_,bV (λq=>bW M q.symm) (λq=>bW T q.symm) Aww]
instance:Lean.Grind.OrderedRing K where
 zero_lt_one:=one_pos
 mul_lt_mul_of_pos_left:=λ{a b c}h L=>by let G:0<b-a:=cF (rY (am h)) [E_,bW h Ag];let z:=af L G;rw[Any (c*(b-a)=c*b-c*a)]at z;grind
 mul_lt_mul_of_pos_right:=λ{a b c}h L=>by let G:0<b-a:=cF (rY (am h)) [E_,bW h Ag];let z:=af L G;rw[Any (c*(b-a)=b*c-a*c)]at z;grind
def bE(a:K):0<=a*a:=by
 rw[WS,Bje a];·grind[ue]
 ·rw[Tq,g,0<=-a]
  let:=ue _ _ g g;grind
def cg{b:K}(T:0<=b)(h:a*a<=b*b):a<=b:=by
 rw[Wr,le_total a b];·show q
 ·let G:0<=(a-b)*(a+b):=ue _ _ Ag Ag;let H:(a-b)*(a+b)=0:=Bpm _ Ag G;rw[Um,a-b=0];·grind
  ·let N:a+b=0:=by
    rw[UG,a+b=0];·show z
    ·rw[T',H,(bV e z)]
   grind
def ae{c:K}(L:0<=c)(h:a<=b):a*c<=b*c:=Akv (ue (b-a) c Ag L)
def cZ:Gx 0=0:=Cie h (wb (K:=K) 0 0)
def eO(p:Rat):Gx (-p)=-DW p:=by let h:=wb (K:=K) p (-p);rw[Any (p+-p=0),cZ]at h;grind
def lV(p q:Rat):Gx (p-q)=DW p-Abd:=Acm [Any,p-q=p+-q] wb eO
def rZ(h:CV p):CV [Gx,p]:=E_ (by let G:=vM (K:=K) p p⁻¹;grind[Rat.mul_inv_cancel,uH])
def cG(h:0<p):0<Gx p:=cF (scf p (Rat.le_of_lt h)) [E_,rZ (K:=K) [GK,Cvq z [JA,h,(Rat.lt_irrefl)]] Aww]
def eP:Gx p<=Abd↔p<=q:=by
 rw[TH]
 ·rw[Td,c,p<=q];·grind
  ·rw[Tq,G,0<p-q]
   let z:=cG (K:=K) G;grind[lV]
 ·rw[UH];rw[Tq,G,0<=q-p]
  let z:=scf (K:=K) _ G;grind[lV]
def lW:Gx p<Abd↔p<q:=by
 rw[TH]
 ·rw[Td,c,p<q];·grind
  ·let G:Gx q<=DW p:=eP.mpr Ag;grind
 ·rw[UH];show cF (eP.mpr Ag) [E_,by
   let:Gx q<=DW p:=Aq
   let:=eP.mp this;grind]
end
structure ts(K:Bq)(c:K)where
 a:K
 b:K
section
variable{K:Type}[OK K]{c:K}
theorem ts.ext'{y:Cq}(G:Ca=EX)(z:Cy=Cz):x=y:=by cases x;simp_all
instance:Add NF:=Bgr x y [Aj,Ca+EX,Cy+Cz]
instance:Mul NF:=Bgr x y [Aj,Ca*EX+Cy*Cz*c,Ca*Cz+Cy*EX]
instance:Neg NF:=Np (λx=>[Aj,-Ca,-Cy])
instance:Sub NF:=Bgr x y [Aj,Ca-EX,Cy-Cz]
local instance:NatCast K:=Lean.Grind.Semiring.natCast
local instance:IntCast K:=Lean.Grind.Ring.intCast
instance:NatCast NF:=Np (λn=>RH (n:K))
instance(n:Nat):OfNat NF n:=Np [RH,(Cgv:K)]
instance:IntCast NF:=Np (λn=>RH (n:K))
instance:SMul Aw NF:=Bgr n x ((Cn n:Cq)*x)
instance:SMul Bm NF:=Bgr n x ((LD:Cq)*x)
def ts.pow(x:Cq):Aw->Cq|0=>1|n+1=>pow x n*x
instance:HPow NF Aw NF:=Np ts.pow
def aW(x y:Cq):(x+y).a=Ca+EX:=rfl
def aX(x y:Cq):(x+y).b=Cy+Cz:=rfl
def aJ(x y:Cq):(x*y).a=Ca*EX+Cy*Cz*c:=rfl
def aO(x y:Cq):(x*y).b=Ca*Cz+Cy*EX:=rfl
def aQ(x:Cq):(-x).a=-Ca:=rfl
def aR(x:Cq):(-x).b=-Cy:=rfl
def bM(x y:Cq):(x-y).a=Ca-EX:=rfl
def bN(x y:Cq):(x-y).b=Cy-Cz:=rfl
def aY(n:Nat):((Cgv:Cq)).a=(Cgv:K):=rfl
def bz(n:Nat):((Cgv:Cq)).b=0:=rfl
def bA(n:Nat):((n:Cq)).a=(n:K):=rfl
def bF(n:Nat):((n:Cq)).b=0:=rfl
def aZ(n:Int):((n:Cq)).a=(n:K):=rfl
def bg(n:Int):((n:Cq)).b=0:=rfl
def bh:(0:Cq).a=0:=rfl
def bG:(0:Cq).b=0:=rfl
def a_:(1:Cq).a=1:=rfl
def bj:(1:Cq).b=0:=rfl
instance smm:Lean.Grind.CommRing NF where
 add_zero x:=by(rw[UP]<;>simp only[aW,aX,aJ,aO,aQ,aR,bM,bN,bh,bG,a_,bj,aZ,bg,bA,bF,aY,bz]<;>grind)
 add_comm x y:=by(rw[UP]<;>simp only[aW,aX,aJ,aO,aQ,aR,bM,bN,bh,bG,a_,bj,aZ,bg,bA,bF,aY,bz]<;>grind)
 add_assoc x y z:=by(rw[UP]<;>simp only[aW,aX,aJ,aO,aQ,aR,bM,bN,bh,bG,a_,bj,aZ,bg,bA,bF,aY,bz]<;>grind)
 mul_assoc x y z:=by(rw[UP]<;>simp only[aW,aX,aJ,aO,aQ,aR,bM,bN,bh,bG,a_,bj,aZ,bg,bA,bF,aY,bz]<;>grind)
 mul_one x:=by(rw[UP]<;>simp only[aW,aX,aJ,aO,aQ,aR,bM,bN,bh,bG,a_,bj,aZ,bg,bA,bF,aY,bz]<;>grind)
 one_mul x:=by(rw[UP]<;>simp only[aW,aX,aJ,aO,aQ,aR,bM,bN,bh,bG,a_,bj,aZ,bg,bA,bF,aY,bz]<;>grind)
 left_distrib x y z:=by(rw[UP]<;>simp only[aW,aX,aJ,aO,aQ,aR,bM,bN,bh,bG,a_,bj,aZ,bg,bA,bF,aY,bz]<;>grind)
 right_distrib x y z:=by(rw[UP]<;>simp only[aW,aX,aJ,aO,aQ,aR,bM,bN,bh,bG,a_,bj,aZ,bg,bA,bF,aY,bz]<;>grind)
 zero_mul x:=by(rw[UP]<;>simp only[aW,aX,aJ,aO,aQ,aR,bM,bN,bh,bG,a_,bj,aZ,bg,bA,bF,aY,bz]<;>grind)
 mul_zero x:=by(rw[UP]<;>simp only[aW,aX,aJ,aO,aQ,aR,bM,bN,bh,bG,a_,bj,aZ,bg,bA,bF,aY,bz]<;>grind)
 pow_zero x:=rfl
 pow_succ x n:=rfl
 ofNat_succ n:=by
  rw[UP];·rw[aW,aY,aY];show Lean.Grind.Semiring.ofNat_succ n
  ·rw[aX,bz,bz];rw[bj];grind
 ofNat_eq_natCast n:=by
  rw[UP];·rw[aY,bA];show Lean.Grind.Semiring.ofNat_eq_natCast n
  ·rfl
 nsmul_eq_natCast_mul n x:=rfl
 neg_add_cancel x:=by(rw[UP]<;>simp only[aW,aX,aJ,aO,aQ,aR,bM,bN,bh,bG,a_,bj,aZ,bg,bA,bF,aY,bz]<;>grind)
 sub_eq_add_neg x y:=by(rw[UP]<;>simp only[aW,aX,aJ,aO,aQ,aR,bM,bN,bh,bG,a_,bj,aZ,bg,bA,bF,aY,bz]<;>grind)
 neg_zsmul i x:=by change(Au (-i):Cq)*x=-((i:Cq)*x);rw[UP]<;>simp only[aJ,aO,aQ,aR,aZ,bg,sjp]<;>grind
 zsmul_natCast_eq_nsmul n x:=by change((LD):Cq)*x=(Cn n:Cq)*x;rw[UP]<;>simp only[aJ,aO,aZ,bg,bA,bF,Lean.Grind.Ring.intCast_natCast (α:=K)]
 intCast_ofNat n:=by
  rw[UP];·rw[aZ,aY];show Lean.Grind.Ring.intCast_ofNat n
  ·rfl
 intCast_neg i:=by rw[UP]<;>simp only[aQ,aR,aZ,bg,sjp]<;>grind
 mul_comm x y:=by(rw[UP]<;>simp only[aW,aX,aJ,aO,aQ,aR,bM,bN,bh,bG,a_,bj,aZ,bg,bA,bF,aY,bz]<;>grind)
def ts.N(x:Cq):K:=Ca*Ca-Cy*Cy*c
def ts.P(x:Cq):Al:=(0<=Ca/\0<=x.N)\/(0<=Cy/\x.N<=0)
def lX(x y:Cq):(x*y).N=x.N*y.N:=by rw[VC,ts.N,aJ,aO];grind
def iK(x:Cq):(-x).N=x.N:=by grind[ts.N,aQ,aR]
def r_(x y:Cq):(x+y).N=x.N+y.N+2*(Ca*EX-Cy*Cz*c):=by grind[ts.N,aW,aX]
structure scg(c:K):Al where
 pos:0<c
 no:∀y:K,y*y≠c
variable(h:scg c)
include h
def lY{y:K}(e:y*y<=0):y=0:=by
 rw[UG,y=0];·show z
 ·rw[Ug,Bpm _ e (bE y),(bV z z)]
def lZ{x:Cq}(e:x.N=0):x=0:=by
 rw[Td,T,Cy=0];·let:Ca=0:=lY h (by rw[ts.N,T]at e;grind);show ts.ext' this T
 ·exfalso;let i:=inv_mul _ T;show h.no (Ca*inv Cy) ?_;grind[ts.N]
def iL{x:Cq}(p:x.P)(q:(-x).P):x=0:=by
 let A:∀{y:K},0<=-(y*y*c)->y=0:=λ{y}q=>by
  show lY h ?_;rw[Um,y*y=0];·grind
  ·let:=af (cF (bE y) (uc e)) h.pos;grind
 rw[Yy,Q,V,Q]<;>rw[Yz,R,U,R]
 ·rw[Up,aQ];rw[Tq,t,Ca=0]
  show ts.ext' t (A ?_);rw[TC,ts.N,Q];rw[t]at Q;grind
 ·rw[iK]at R;show lZ h Ag
 ·rw[iK]at R;show lZ h Ag
 ·rw[Up,aR];rw[Tq,l,Cy=0]
  show ts.ext' (lY h ?_) l;rw[TC,ts.N,Q];rw[l]at Q;grind
def r8(x:Cq):x.P\/(-x).P:=by
 rcases Bje x.N with n|n
 ·rcases Bje Ca with a|a;·rw[TB,(FJ a n)]
  ·rw[Uv,[FJ,DR aQ,Csn iK]]
 ·rcases Bje Cy with a|a;·rw[TB,(Kq a n)]
  ·rw[Uv,[Kq,DR aR,Csn iK]]
theorem AA{x y:Cq}(a:0<=Ca)(X:0<=x.N)(Y:0<=EX)(f:0<=y.N):Cy*Cz*c<=Ca*EX/\-(Cy*Cz*c)<=Ca*EX:=by
 let e:(Cy*Cz*c)*(Cy*Cz*c)<=(Ca*EX)*(Ca*EX):=by unfold ts.N at X f;let U:0<=Cz*Cz*c:=ue _ _ (bE _) (am h.pos);let G:(Cy*Cy*c)*(Cz*Cz*c)<=(Ca*Ca)*(Cz*Cz*c):=ae U Ag;let z:(Cz*Cz*c)*(Ca*Ca)<=(EX*EX)*(Ca*Ca):=ae (bE _) Ag;grind
 grind[cg,ue]
theorem BB{x y:Cq}(a:0<=Cy)(X:x.N<=0)(Y:0<=Cz)(f:y.N<=0):Ca*EX<=Cy*Cz*c/\-(Ca*EX)<=Cy*Cz*c:=by
 let L:=am h.pos;let S:=ue _ _ (ue _ _ a Y) L;let e:(Ca*EX)*(Ca*EX)<=(Cy*Cz*c)*(Cy*Cz*c):=by unfold ts.N at X f;let U:0<=Cz*Cz*c:=ue _ _ (bE _) L;let G:(Ca*Ca)*(Cz*Cz*c)<=(Cy*Cy*c)*(Cz*Cz*c):=ae U Ag;let z:(EX*EX)*(Ca*Ca)<=(Cz*Cz*c)*(Ca*Ca):=ae (bE _) Ag;grind
 grind[cg]
def aaa{y:Cq}(a:0<=Ca)(X:0<=x.N)(Y:0<=EX)(f:0<=y.N):(x+y).P:=by let:=AA h a X Y f;show [FJ,DR aW,DR r_]
def aab{y:Cq}(a:0<=Cy)(X:x.N<=0)(Y:0<=Cz)(f:y.N<=0):(x+y).P:=by let:=BB h a X Y f;show [Kq,by grind[aX],by grind[r_]]
def ajg:(0:Cq).P:=[FJ,by grind[bh],by grind[ts.N,bh,bG]]
def aac{y:Cq}(p:x.P)(q:y.P)(a:0<=Ca)(X:0<=x.N)(Y:0<=Cz)(f:y.N<=0):(x+y).P:=by
 rw[XE,r8 h (x+y)];·show z
 ·let s:=z;rcases z with⟨E,l⟩|⟨E,l⟩
  ·let w:=aaa h E l a X;rw[Tq,e,-(x+y)+x=-y]
   rw[e]at w;let:=iL h q w;rw[this,Any (x+0=x)];show p
  ·let w:=aab h E l Y f;rw[Tq,e,-(x+y)+y=-x]
   rw[e]at w;let:=iL h p w;rw[this,Any (0+y=y)];show q
def ajh{y:Cq}(p:x.P)(q:y.P):(x+y).P:=by
 let e:=p;let j:=q;rw[Yy,Q,V,Q]<;>rw[Yz,R,U,R];·grind[aaa]
 ·grind[aac]
 ·rw[Any (x+y=y+x)];grind[aac]
 ·grind[aab]
def aad{y:Cq}(a:0<=Ca)(X:0<=x.N)(Y:0<=Cz)(f:y.N<=0):(x*y).P:=by
 let L:=h.pos;rw[TN,Bpl]
 ·rw[aO];let e:-(Cy*EX)<=Ca*Cz:=by
   show cg (ue _ _ a Y) ?_;unfold ts.N at X f;let U:(EX*EX)*(Cy*Cy*c)<=(Cz*Cz*c)*(Cy*Cy*c):=ae (ue _ _ (bE _) (am L)) Ag;let R:(Cy*Cy*c)*(Cz*Cz*c)<=(Ca*Ca)*(Cz*Cz*c):=ae (ue _ _ (bE _) (am L)) Ag;rw[Tq,t,0<=((Ca*Cz)*(Ca*Cz)-(Cy*EX)*(Cy*EX))*c]
   rw[XE,le_total (-(Cy*EX)*-(Cy*EX)) ((Ca*Cz)*(Ca*Cz))];·grind
   ·let:=Bpm _ (by let:=ue ((Cy*EX)*(Cy*EX)-(Ca*Cz)*(Ca*Cz)) c Ag (am L);grind) t;grind[bV]
  grind
 ·rw[lX];let:=ue _ _ X (Bpi (0<=-y.N));grind
def aji{y:Cq}(p:x.P)(q:y.P):(x*y).P:=by
 rw[Yy,Q,V,Q]<;>rw[Yz,R,U,R];·let:=AA h V Q U R;show FJ [DR,aJ] [Cb,lX,ue _ _ Q R]
 ·show aad h V Q U R
 ·rw[Any (x*y=y*x)];show aad h U R V Q
 ·let:=BB h V Q U R;rw[TB,FY [DR,aJ]];rw[lX];let:=ue (-x.N) (-y.N) Ag Ag;grind
omit h
instance:LE NF:=Bgr x y (y-x).P
instance:LT NF:=Bgr x y ((y-x).P/\¬(x-y).P)
def ts.inv(x:Cq):Cq:=[Aj,Ca*OK.inv x.N,-(Cy*OK.inv x.N)]
@[reducible]def sdB(h:scg c):OK NF where
 inv:=ts.inv
 rat q:=RH Abd
 le_refl x:=by change(x-x).P;rw[Any (x-x=0)];show ajg h
 le_trans x y z p q:=by change(z-x).P;rw[Ckc (z-x=(z-y)+(y-x))];show ajh h q p
 le_antisymm x y p q:=by let p:(y-x).P:=p;let q:(x-y).P:=q;rw[UI,Ckc (x-y=-(y-x))];let:=iL h p q;grind
 le_total x y:=by
  rw[XE,r8 h (y-x)];·rw[TB,z]
  ·rw[Cjz (-(y-x)=x-y)]at z;rw[TN,z]
 lt_iff x y:=Iff.rfl
 sdA x y z p:=by change((y+z)-(x+z)).P;rw[Cjz ((y+z)-(x+z)=y-x)];show p
 ue x y p q:=by let p:(x-0).P:=p;let q:(y-0).P:=q;change(x*y-0).P;rw[Cnm (∀z:Cq,z-0=z)]at p q|-;show aji h p q
 one_pos:=by
  rw[Tq,e,(1-0:Cq)=1]
  let p:(1:Cq).P:=[FJ,Cb a_ Dew,by rw[VC,ts.N,a_,bj];let:=Bay;grind];rw[Th,by rw[e];show p,FC q];rw[UI,Cjz ((0-1:Cq)=-1)];let z:=vo ts.a (iL h p q);rw[a_,bh]at z;show bW one_pos z.symm
 inv_mul x O:=by
  rw[UF,n,x.N,0,e,O (lZ h e)];let i:=inv_mul x.N n;rw[UP];·rw[aJ,a_];change Ca*(Ca*inv x.N)+Cy*-(Cy*inv x.N)*c=1;rw[<-i];unfold ts.N;grind
  ·rw[aO,bj];change Ca*-(Cy*inv x.N)+Cy*(Ca*inv x.N)=0;grind
 wb p q:=by
  rw[UP];·rw[aW];show wb p q
  ·rw[aX];change EY=0+0;grind
 vM p q:=by
  rw[UP];·rw[aJ];change DW (p*q)=DW p*Abd+0*0*c;rw[vM];grind
  ·rw[aO];change EY=DW p*0+0*Abd;grind
 uH:=by
  rw[UP];·show uH
  ·rfl
 scf p Y:=by change ts.P (_-0);rw[Cnm (∀z:Cq,z-0=z)];let G:=scf (K:=K) p Y;show FJ G (by rw[Vm,ts.N];let:=ue _ _ G G;grind)
end
instance slo:OK Rat where
 inv:=λq=>q⁻¹
 rat q:=q
 le_refl a:=Rat.le_refl
 le_trans a b c p q:=Rat.le_trans p q
 le_antisymm a b p q:=Rat.le_antisymm p q
 le_total a b:=Rat.le_total
 lt_iff a b:=by rw[TH]<;>grind
 sdA a b c p:=Aq
 ue a b p q:=Rat.mul_nonneg p q
 one_pos:=DC
 inv_mul a M:=Rat.mul_inv_cancel a M
 wb p q:=rfl
 vM p q:=rfl
 uH:=rfl
 scf p Y:=Y
end Alg
namespace Tw
open Alg Alg.OK
def bX(h:AD=2^(n+1)):An Aso=2^n:=by
 unfold Lk.lo;rw[ug,h];let:2^(n+1)=2*2^n:=Fb t5
 omega
def bY(h:AD=2^(n+1)):An Bac=2^n:=by grind[Lk.hi]
def ajj(h:AD=CK):Bip (x++y)=x:=by grind[Lk.lo,List.take_left']
def ajk(h:AD=CK):Boq (x++y)=y:=by unfold Lk.hi;rw[su,h,Of ((CK+CK)/2=CK),<-h,shC];rfl
def aD(O:AD=n)(Q:CK=n):An [Lp,x,y]=n:=by grind[plus]
def bH:Bdi q x=AD:=by grind[times]
def bI(O:AD=n)(Q:CK=n):An [Avu,x,y]=n:=Bzc minus (aD O (by rw[bH];show Q))
def dz:An Cjq=n:=by grind[zeros]
def ajl(n:Nat):0<2^n:=uz n
def cH:An [Akw,t,q]=2^AH:=by unfold ofRat;rw[sT,dz];let:=ajl AH;omega
section
variable{K:Type}[OK K]
def sF:Ct->Num->K|[],x=>DW (Bch 0)|r::J,x=>Ata+Ais x*r
def uI:Im Ct Tower|[],[]=>True|r::J,c::t=>Afm/\0<=r/\r*r=DE c/\Aey=2^AH|_,_=>False
theorem uI.len:Bor (Afm->BR=AH)|[],[],_=>rfl|[],_::_,h=>h.elim|_::_,[],h=>h.elim|r::J,c::t,h=>CO (uI.len Bk)
def ajm(h:AD=CK):Bip (Lp x y)=Lp (Aso) (Bip y):=by unfold Lk.lo plus;rw[List.length_zipWith,h,Nat.min_self,List.take_zipWith]
def ajn(h:AD=CK):Boq (Lp x y)=Lp (Bac) (Boq y):=by grind[Lk.hi,plus]
def ajo:Bip (Fh q x)=Fh q (Aso):=MV Lk.lo times
def ajp:Boq (Fh q x)=Fh q (Bac):=by unfold Lk.hi times;rw[sr,sch]
def eQ{x:Num}(h:AD=2^0):∃a,x=Hi:=Czi
def a0:∀(J:Ct){x y:Num},AD=2^BR->CK=2^BR->LL [Lp,x,y]=Jb+Ajx|[],x,y,O,Q=>by rw[VR,a,eQ O];rw[VR,b,eQ Q];show wb a b|r::J,x,y,O,Q=>by unfold sF;rw[ajm Ac,ajn Ac,a0 _ (bX O) (bX Q),a0 _ (bY O) (bY Q)];grind
def bn(q:Rat):∀(J:Ct){x:Num},AD=2^BR->LL [Fh,q,x]=Abd*Jb|[],x,O=>by rw[VR,a,eQ O];show vM q a|r::J,x,O=>by unfold sF;rw[ajo,ajp,bn q J (bX O),bn q J (bY O)];grind
def bO(J:Ct)(O:AD=2^BR)(Q:CK=2^BR):LL [Avu,x,y]=Jb-Ajx:=by grind[minus,a0,bH,bn,eO,uH]
def eR:∀(J:Ct)(n:Nat),LL Cjq=0
|[],n=>by grind[sF,zeros,cZ]
|r::J,n=>by
 unfold sF;let G:Bip (Cjq)=zeros (n/2):=by grind[Lk.lo,zeros]
 let z:Boq (Cjq)=zeros (n-n/2):=by grind[Lk.hi,zeros]
 rw[G,z,eR _,eR _];grind
def eS(r:K)(J:Ct)(h:AD=CK):sF (r::J) (x++y)=Jb+Ajx*r:=by change LL [Bip,(x++y)]+Ais (x++y)*r=_;rw[ajj h,ajk h]
def ajq(c:Num)(t:Tower)(q:Rat):Akw (c::t) q=Akw t q++zeros (2^AH):=by grind[ofRat,zeros,List.replicate_append_replicate]
def c_(q:Rat):∀(J:Ct)(t:Tower),BR=AH->LL [Akw,t,q]=Abd
|[],[],_=>rfl
|r::J,c::t,h=>by
 rw[Tq,U,BR=AH]
 rw[ajq,eS r _ [Ni,cH,dz],c_ q _ t U,eR];grind
|[],_::_,h=>Ch
|_::_,[],h=>Aq
def eT:∀{t:Tower}{x y:Num},(Dex (c::u) (Aey=2^AG u))->AD=2^AH->CK=2^AH->An [Aqy,x,y]=2^AH|[],x,y,_,_,_=>rfl|c::t,x,y,L,O,Q=>by let B:∀(d:Num)(u:Tower),(d::u)<:+t->AG d=2^AG u:=λd u h=>L d u (List.IsSuffix.trans h (List.suffix_cons c t));let s:Aey=2^AH:=L c t (List.suffix_refl _);unfold Lk.mul;rw[su,aD (n:=2^AH) (eT B (bX O) (bX Q)) (eT B (eT B (bY O) (bY Q)) s),aD (n:=2^AH) (eT B (bX O) (bY Q)) (eT B (bY O) (bX Q)),sT,t5];omega
def uI.aae:Bor (Afm->Dex (c::u) (Aey=2^AG u))
|[],[],_,c,u,h=>Aq
|[],_::_,h,_,_,_=>h.elim
|_::_,[],h,_,_,_=>h.elim
|r::J,d::t,h,c,u,P=>by
 rcases List.suffix_cons_iff.mp P with e|e;·rw[Tr];show(DI).2
 ·show aae Bk c u e
def uI.aK{J:Ct}(v:Afm)(O:AD=2^AH)(Q:CK=2^AH):An [Aqy,x,y]=2^AH:=eT v.aae O Q
def aG:Bor (Afm->∀{x y:Num},AD=2^AH->CK=2^AH->LL [Aqy,x,y]=Jb*Ajx)|[],[],_,x,y,O,Q=>by rw[VR,a,eQ O];rw[VR,b,eQ Q];show vM a b|[],_::_,h,_,_,_,_=>h.elim|_::_,[],h,_,_,_,_=>h.elim|r::J,c::t,v,x,y,O,Q=>by rw[Ys,Z,d,s];let U:=S.len;let l:=bX O;let Y:=bY O;let H:=bX Q;let e:=bY Q;let V:=Blz H;let P:=Beo e;let D:=S.aK P s;let F:=Blz e;let m:=Beo H;unfold Lk.mul;rw[eS r J [Ni,aD V D,aD F m],a0 J (by rw[U];show V) (by rw[U];show D),a0 J (by rw[U];show F) (by rw[U];show m),aG S l H,aG S P s,aG S Y e,aG S l e,aG S Y H,<-d];change _=(Ata+Ais x*r)*(LL [Bip,y]+Ais y*r);grind
def Sg(z:Int)(a:K):Al:=(z=1/\0<a)\/(z=0/\a=0)\/(z=-1/\a<0)
theorem Sg.pos{a:K}(h:Sg z a):0<z↔0<a:=by rw[Xa,rfl,h,rfl,h,rfl,h]<;>rw[TH]<;>intro q<;>first|grind|rfl
theorem Sg.neg{a:K}(h:Sg z a):z<0↔a<0:=by rw[Xa,rfl,h,rfl,h,rfl,h]<;>rw[TH]<;>intro q<;>first|grind|omega
theorem Sg.zero{a:K}(h:Sg z a):z=0↔a=0:=by rw[Xa,rfl,h,rfl,h,rfl,h]<;>rw[TH]<;>intro q<;>first|grind|rfl
theorem Sg.uniq{a:K}(h:Sg z a)(g:Sg y a):z=y:=by rw[Xa,rfl,h,rfl,h,rfl,h]<;>rcases g with⟨rfl,g⟩|⟨rfl,g⟩|⟨rfl,g⟩<;>first|rfl|grind
theorem Sg.scale{w:K}(h:Sg z a)(Y:0<w):Sg z (a*w):=by
 rw[Xa,e,h,e,h,e,h];·show FJ e (af h Y)
 ·rw[Uv,FJ e [DR,h]]
 ·rw[Uv,Kq e [Akv,af (Bpi (0< -a)) Y]]
theorem Sg.of_le{a:K}(h:Sg z a):0<=z↔0<=a:=by rw[Xa,rfl,h,rfl,h,rfl,h]<;>rw[TH]<;>intro q<;>first|grind|rfl
def gn{a:K}:0<a\/a=0\/a<0:=Aq
def iM{b:K}(M:0<a)(T:b<0)(h:0<a*a-b*b):0<a+b:=by
 rcases gn (a:=a+b)with q|q|q;·show q
 ·let:a*a-b*b=0:=DR [Bpi,a=-b]
  grind
 ·let:=af (Bpv (0< -(a+b))) (Bpi (0<a-b));grind
def aaf{w:K}(P:Sg s u)(H:Sg r w)(f:Sg n (u*u-w*w)):Sg [Cv,r=0,s,[Bo,s=0\/s=r,r,s*n]] (u+w):=by
 rcases H with⟨rfl,H⟩|⟨rfl,H⟩|⟨rfl,H⟩
 ·rw[My];rcases P with⟨rfl,P⟩|⟨rfl,P⟩|⟨rfl,P⟩;·show Aze Aq
  ·show Aze Aq
  ·rcases f with⟨rfl,f⟩|⟨rfl,f⟩|⟨rfl,f⟩;·rw[VX,Alw];let:=iM (a:=-u) (b:=-w) Ag Ag Ag;grind
   ·rw[Uv,AK Alw];rw[Tq,G,(u+w)*(u-w)=0]
    rw[Um,u+w=0];·show e
    ·rw[T',G,(bV e Ag)]
   ·rw[TB,Alw];let:=iM (a:=w) (b:=u) Ag Ag Ag;grind
 ·rw[H,Any (u+0=u)];show P
 ·rw[My];rcases P with⟨rfl,P⟩|⟨rfl,P⟩|⟨rfl,P⟩
  ·rcases f with⟨rfl,f⟩|⟨rfl,f⟩|⟨rfl,f⟩;·rw[TB,Alw];show iM P H f
   ·rw[Uv,AK Alw];rw[Tq,G,(u+w)*(u-w)=0]
    rw[Um,u+w=0];·show e
    ·rw[T',G,(bV e Ag)]
   ·rw[VX,Alw];let:=iM (a:=-w) (b:=-u) Ag Ag Ag;grind
  ·rw[Uv,Bhg Aq]
  ·rw[Uv,Bhg Aq]
def ajr(q:Rat):Sg (signOf q) (Gx q):=by
 unfold signOf;rw[Tv,q<0];·rw[NA];rw[Uv,Bhg (by let:=(lW (K:=K)).mpr h;grind[cZ])]
 ·rw[Nw];rw[UG,0<q];·rw[Av z];show Aze (cG z)
  ·rw[AF z];rw[Uv,Aze (by grind[cZ])]
def aag{c:K}(h:r*r=c):c=0↔r=0:=by
 rw[TH]
 ·intro e;rw[UG,r=0];·show z
  ·rw[Ug,h.trans e,(bV z z)]
 ·intro e;rw[<-h,e];grind
open Classical in theorem slp{r:K}(h:Sg z b)(w:0<=r):Sg [Cv,r=0,0,z] (b*r):=by
 rw[Um,r=0];·rw[Av e];rw[TN,Ag]
 ·rw[AF e];show h.scale Ag
open Classical in theorem u8:Bor [Cwl,Afm,AD=2^AH->Sg (Bma x) (Jb)]
|[],[],_,x,O=>ajr _
|[],_::_,h,_,_=>h.elim
|_::_,[],h,_,_=>h.elim
|r::J,c::t,v,x,O=>by
 rw[Ys,Z,d,s];let U:=S.len;let l:=bX O;let Y:=bY O;let V:=Blz l;let P:=Beo Y;let D:=S.aK P s;let b:=u8 S (bI V D);rw[bO _ Ag Ag,aG S l l,aG S P s,aG S Y Y]at b;let e:[Cv,Bma c=0,0,Bma (Bac)]=[Cv,r=0,0,Bma (Bac)]:=by let G:=(u8 S s).zero.trans (aag d);grind
 let u:=slp (u8 S Y) Z;rw[<-e]at u;show aaf (u8 S l) u ?_;grind
def gp:Bor [Cwl,Afm,AD=2^AH->An [Bto,t,x]=2^AH]
|[],[],_,x,O=>rfl
|[],_::_,h,_,_=>h.elim
|_::_,[],h,_,_=>h.elim
|r::J,c::t,v,x,O=>by
 rw[Ys,Z,d,s];let l:=bX O;let Y:=bY O;let V:=Blz l;let P:=Beo Y;let D:=S.aK P s;let j:AD/2=2^AH:=by rw[O,sT,t5];omega
 unfold inverse;rw[TD];split;·rw[su,gp S [Cht,bH],dz,j,sT,t5];omega
 ·let i:=gp S (bI V D);rw[su,Blz i,bH,Beo i,sT,t5];omega
def l_:Bor [Cwl,Afm,AD=2^AH->CV Jb->LL [Bto,t,x]*Jb=1]
|[],[],_,x,O,H=>by rw[VR,a,eQ O];change DW (1/a)*DW a=1;let H:CV [Gx,a]:=H;rw[UF,M,a,0,e,H [Ni,e,cZ]];rw[<-vM,Any (1/a*a=1),uH]
|[],_::_,h,_,_,_=>h.elim
|_::_,[],h,_,_,_=>h.elim
|r::J,c::t,v,x,O,H=>by
 rw[Ys,Z,d,s];let U:=S.len;let l:=bX O;let Y:=bY O;let V:=Blz l;let P:=Beo Y;let D:=S.aK P s;let b:=u8 S (bI V D);let E:LL [Avu,(Aqy (Aso) (Aso)),(Aqy (Aqy (Bac) (Bac)) c)]=Ata*Ata-Ais x*Ais x*(r*r):=by grind[bO,aG]
 rw[Tq,j,AD/2=2^AH]
 let H:CV (Ata+Ais x*r):=H;change sF (r::J) (Bto (c::t) x)*(Ata+Ais x*r)=1;unfold inverse;rw[TD];split
 ·rw[TF,B];let B:=b.zero.mp B;rw[Tq,W,(Ata+Ais x*r)*(Ata-Ais x*r)=0]
  let N:Ata=Ais x*r:=by grind[bV]
  let A:LL [Fh,2,(Aso)]=Ata+Ais x*r:=by rw[bn _ J [Cht,U],Cjz (Co 2=1+1),wb,uH];grind
  let i:=l_ S (x:=Fh 2 (Aso)) [Cht,bH] (by rw[A];show H);rw[eS r J (by rw[gp S [Cht,bH],dz,j]),eR];grind
 ·rw[TF,B];rw[UF,u,LL [Avu,(Aqy (Aso) (Aso)),(Aqy (Aqy (Bac) (Bac)) c)],0,q,B (b.zero.mpr q)];let i:=l_ S (bI V D) u;let T:=gp S (bI V D);rw[eS r J (by rw[Blz T,bH,Beo T]),bn _ J [Eb,U,Beo T],aG S l T,aG S Y T,eO,uH];grind
end
def sfa:JH Tower|[]=>True|c::t=>sfa t/\Aey=2^AH/\0<=Bma c
section
variable{K:Type}[OK K]{c:K}
def sci(x:K):Cq:=RH x
def iN(h:scg c):∀(J:Ct)(x:Num),@sF NF (sdB h) (J.map sci) x=sci (Jb)
|[],x=>rfl
|r::J,x=>by
 change @sF _ (sdB h) ..+@sF _ (sdB h) ..*sci r=sci _;rw[iN h _,iN h _];rw[UP];·change sF ..+(sF ..*r+0*0*c)=sF ..+sF ..*r;grind
 ·change(0)+(sF ..*0+0*r)=0;grind
def ajs(h:scg c)(O:0<=x):@LE.le NF (sdB h).toLE 0 (sci x):=by change ts.P _;rw[Cnm (∀z:Cq,z-0=z)];rw[TB,FY O];change 0<=x*x-0*0*c;let:=bE x;grind
def aah(h:scg c):Bor (Afm->@uI NF (sdB h) (J.map sci) t)
|[],[],_=>vH
|[],_::_,h=>h.elim
|_::_,[],h=>h.elim
|r::J,d::t,v=>by
 show⟨aah h v.1,ajs h v.2.1,?_,v.2.2.2⟩;rw[iN h J,<-v.2.2.1];rw[UP];·change r*r+0*0*c=r*r;grind
 ·change r*0+0*r=EY;grind
end
def l8:∀{t:Tower},sfa t->∃(K:Bq)(_:Dw)(J:Ct),Afm
|[],_=>Ky slo [] vH
|c::t,g=>by
 obtain⟨A,s,i⟩:=g;rw[Tj,K,I,J,v,l8 A];let S:=(u8 v s).of_le.mp i;rw[Td,P,∃y:K,y*y=DE c]
 ·obtain⟨y,Q⟩:=P;rw[Wr,Bje y];·show BF K _ (y::J) v q Q s
  ·show BF K _ (-y::J) v Aq Aq s
 ·let w:scg (DE c):=by rw[Th,cF S [E_,P [Bhb,0]],λy Q=>P [Aj,y,Q]]
  show⟨_,_,Aj 0 1::J.map _,aah w v,?_,?_,s⟩;·change ts.P _;rw[Cnm (∀z:ts K _,z-0=z)];rw[TN,FY Dew];change(0)*0-1*1*Sc c<=0;grind
  ·rw[iN ..];rw[UP];·change(0)*0+1*1*Sc c=Sc c;grind
   ·change(0)*1+1*0=0;grind
end Tw
namespace Rd
open Alg Alg.OK Tw
def l9(m:∀a b,a<=b->t a=Aa->t b=Aa):∀(k z:Nat),t (z+2^k-1)=Aa->t (leastFrom t k z)=Aa/\∀j,z<=j->j<leastFrom t k z->t j=Af
|0,z,h=>by grind[leastFrom]
|k+1,z,h=>by
 unfold leastFrom;split;·rw[TF,G];show l9 m k z G
 ·rw[TF,G];rw[Tc,a,b,l9 m k (z+2^k) Ag];rw[Th,a,Bz j H F];rw[Td,D,z+2^k<=j];·grind
  ·cases q:t j with|false=>rfl|true=>rw[Ug,m j _ Ac q,G]
def aai(m:∀a b,a<=b->ok a=Aa->ok b=Aa)(c:ok N=Aa)(o:N<=2^26):ok (least ok)=Aa/\∀j,j<least ok->ok j=Af:=by
 unfold least;split;·rw[TF,h];rw[Th,h,λj C=>AE]
 ·rw[TF,H];let O:∃j,([Pp,27].find? [Bkk,ok (2^j)])=Ae j:=by cases q:[Pp,27].find? [Bkk,ok (2^j)]with|some j=>rw[TY,j]|none=>let:=List.find?_eq_none.mp q 26 AN;rw[Ug,m _ _ o c,this]
  obtain⟨j,C⟩:=O;rw[C];let G:ok (2^j)=Aa:=List.find?_some (p:=Bkk (ok (2^j))) C;rw[Tc,a,b,l9 m j 1 (by rw[sjq];show G)];rw[Th,a,AV i V];rw[UG,i=0];·subst z;cases q:ok 0 with|false=>rfl|true=>rw[T',q,H]
  ·show b i Ac V
def aaj(m:∀a b,a<=b->t a=Aa->t b=Aa)(c:t N=Aa)(o:N<=2^26)(h:∀j,j<N->t j=Af):least t=N:=by grind[aai]
def aak{a:Int}{b c:Nat}(h:a+b=c):Jc a*LN (2^b)=LN (2^c):=by
 unfold pow2;split;·rw[<-Rat.natCast_mul,<-sK];grind
 ·rw[Uc,e,b=c+DQ (-a)]
  let Y:CV [LN,2^DQ (-a)]:=by let:=uz [DQ,-a];intro q;let:=Rat.natCast_inj.mp (q.trans (show(0)=LN 0 from rfl));omega
  grind
def iO(k:Nat):Co 0<LN (2^k):=Akv (shD.mpr (uz k))
def ma(a:Int):0<Jc a:=by
 unfold pow2;split;·show iO _
 ·let:=iO [DQ,-a];rw[Rat.div_def,Rat.one_mul];show Rat.inv_pos.mpr this
section
variable{K:Type}[OK K]{rs:List K}{t:Tower}
def eU(v:Bno)(O:AD=2^AH)(q:Rat):Sg (Caq x q) (Pb-Abd):=by unfold against;let:=u8 v (bI O (cH (q:=q)));rw[VW,bO _ (DR v.len) (by rw[v.len];show cH),c_ q _ t v.len];grind
def gq(v:Bno)(O:AD=2^AH)(q:Rat):Avd x q=Aa↔Pb<Abd/\-(Abd)<Pb:=by unfold Lk.below;let G:=eU v O q;let z:=eU v O (-q);rw[eO]at z;rw[si,sa4,sa4,G.neg,z.pos];rw[TH]<;>rw[UH]<;>rw[TH]<;>grind
def sk(z:Int):K:=Lc z
def az(a b:Int):CA (a+b)=sk a+sk b:=Acr sk Rat.intCast_add wb
def ak(a b:Int):CA (a*b)=sk a*sk b:=Acr sk sdC vM
def aq(a:Int):CA (-a)=-sk a:=Acr sk Rat.intCast_neg eO
def eW(a b:Int):CA (a-b)=sk a-sk b:=Acr sk scj lV
def aH:CA 0=0:=Aiz sk Rat.intCast_zero cZ
def ah:CA 1=1:=Aiz sk Rat.intCast_one uH
def aL:CA a<=sk b↔a<=b:=Acr sk eP Rat.intCast_le_intCast
def bP:CA a<sk b↔a<b:=Acr sk lW Rat.intCast_lt_intCast
def bQ(n:Nat):CA LD=Lc n:=Ch
def eX:CA 2=2:=Acm (show Rq=1+1 by rfl) az ah
def Fl(y:K)(f:Int):Al:=sk f<=y/\y<sk (f+1)
theorem Fl.uniq{y:K}(h:Fl y f)(H:Fl y g):f=g:=by
 let G:CA f<sk (g+1):=by let:=Bk;let:=H.2;grind
 let z:CA g<sk (f+1):=by let:=Ck;let:=H.1;grind
 let:=bP.mp G;let:=bP.mp z;omega
def mn(v:Bno)(O:AD=2^AH):∀(k:Nat)(z:Int),sk z<=Pb->Pb<sk (z+Cn (2^k))->Fl (Pb) (upTo t x k z)
|0,z,G,H=>Aj G H
|k+1,z,G,H=>by
 unfold upTo;let F:=(eU v O ((z+(2^k)))).of_le;split;·show mn v O k _ (by grind[sk]) ?_;grind
 ·show mn v O k z G ?_;grind[sk]
def gv(k:Nat):Jc Ey=LN (2^k):=Ch
def aal(v:Bno)(O:AD=2^AH)(c:N<=2^26)(G:Pb<Aja N)(z:-(Aja N)<Pb):Fl (Pb) (Aif):=by
 unfold floor;let m:∀a b:Aw,a<=b->Avd x (Jc [Au,a])=Aa->Avd x (Jc Cj)=Aa:=Ir a b H (by rw[Ud,gq v O,h];let:Gx (Jc a)<=DW (Jc b):=eP.mpr (by rw[gv,gv,Rat.natCast_le_natCast];show Mc H);grind)
 let T:=(aai (ok:=Bin [Avd,x,(Jc Ey)]) m (N:=N) ([Blo,gq v O _,Baw gv,by rw[gv];show z]) c).1;dsimp only at T|-;generalize least (Bin [Avd,x,(Jc Ey)])=k at T|-;rw[gq v O,gv]at T;show mn v O (k+1) _ ?_ ?_;·rw[aq,bQ];grind
 ·let e:(-Ay (2^k))+Ay (2^(k+1))=Ay (2^k):=Fb t5
  rw[e,bQ];grind
def sab(y:K)(n:Int):Al:=sk (2*n-1)<=2*y/\2*y<=sk (2*n+1)/\((2*y=sk (2*n-1)\/2*y=sk (2*n+1))->n%2=0)
theorem sab.uniq{y:K}(h:sab y n)(g:sab y m):n=m:=by
 let G:=(aL).mp (Bcd _ _ Bk g.2.1);let z:=(aL).mp (Bcd _ _ g.1 JN);rw[Um,n=m];·grind
 ·rcases Ij (n=m+1\/m=n+1)with q|q;·let W:=Bpm _ g.2.1 (by let:=Bk;grind);let a:=g.2.2 (Bw W);let b:=(Ck).2 Ag;omega
  ·let W:=Bpm _ JN (by let:=g.1;grind);let a:=(Ck).2 (Bw W);let b:=g.2.2 Ag;omega
theorem sab.neg{y:K}(h:sab y n):sab (-y) (-n):=by
 rw[Ut,a,b,c];rw[Yq,W,CA (2*-n-1),-sk (2*n+1),aq]
 rw[Yq,N,CA (2*-n+1),-sk (2*n-1),aq]
 rw[Tp,Aq,Aq,FC q];grind
def ajt(f:Int):Gx (Co f+1/2)+DW (Co f+1/2)=sk (2*f+1):=by unfold sk;rw[<-wb];congr 1;rw[Rat.intCast_add,sdC];grind
def aam(v:Bno)(O:AD=2^AH)(R:Fl (Pb) (Aif)):sab (Pb) (nearest t x):=by
 unfold nearest;rw[TD];generalize Aif=f at R|-;obtain⟨G,h⟩:=R;let s:=eU v O (Co f+1/2);let A:=ajt (K:=K) f;rw[az,ah]at h;let U:=Cuk;let X:CA (2*f-1)=2*sk f-1:=by rw[eW,ak,ah,U]
 let S:CA (2*f+1)=2*sk f+1:=by rw[az,ak,ah,U]
 rw[Tq,H,CA (2*(f+1)-1)=2*sk f+1]
 let p:CA (2*(f+1)+1)=2*sk f+3:=by rw[az,ak,az,ah,U];grind
 split;·rw[TF,q];let q:=s.neg.mp q;rw[Tp,Aq,Aq,Axc];rw[Xt]<;>grind
 ·split;·rw[TF,q];let q:=s.pos.mp q;rw[Tp,Aq,Aq,Axc];rw[Xt]<;>grind
  ·rw[TF,Q];let q:Pb-DW (Co f+1/2)=0:=s.zero.mp Ac;split;·rw[TF,a];rw[Tp,DR X,DR S,Cld]
   ·rw[TF,a];rw[Tp,DR H,DR p,Cld]
def bl(u:Nat):Aw:=[Bo,u=0,0,u.log2+1]
def sck(u:Nat):Aw:=Ik (bl u-53) 1
def sa5(A b R S:Nat)(B E:Bool):Bh:=[CH,A=0,Bl S R||(Aml R S (B||AQ (b%2) 1)),[CH,A=1,E&&(Bl 0 R||B),[CH,A=2,! E&&(Bl 0 R||B),Af]]]
def sdD(u:Nat)(B E:Bool)(A:Nat):Aw:=let d:=Dd;let b:=u/2^d;let R:=u-b*2^d;let k:=[Bo,sa5 A b R (2^(d-1)) B E=Aa,b+1,b];(d-1)*2^52+k+[Cv,E=Aa,2^63,0]
def aju(u:Nat):u<2^bl u:=by grind[bl,Nat.lt_log2_self]
def ajv(h:CV u):2^(bl u-1)<=u:=Cvd bl Nat.log2_self_le
def aan(u:Nat):1<=Dd:=by unfold sck;omega
def ajw(u:Nat):u<2^(53+Dd):=MD (aju u) (Mc (by grind[sck]))
def ajx(h:1<Dd):2^(52+Dd)<=u:=by
 let e:Dd=bl u-53:=by grind[sck]
 let H:CV u:=by grind[bl]
 let:=ajv H;grind
def ajy(v:Bno){x:Num}(O:AD=2^AH)(R:Fl (Pb) (Aif)){b:Nat}{a:K}{k c d:Al}{E:Bool}(M:Pb=[Gz,E=Aa,-a,a])(Y:0<a)(G:Aol<=a)(B:a<sk (Cj+1))(j:k↔a=Aol)(l:c↔sk (2*Cj+1)<2*a)(h:d↔2*a=sk (2*Cj+1))[Bqq k][Bqq c][Bqq d](A:Nat):AX (Car t x)=([Iz,([CH,A=0,Sl c||(Sl d&&AQ (b%2) 1),[Bo,A=1,E&&! Sl k,[Bo,A=2,! E&&! Sl k,Af]]])=Aa,b+1,b]):=by
 let U:=Cuk;let f:=aam v O R;let s:=eU v O Clh;unfold wholeBy;let C:[Cv,Caq x Clh=0,Aif,Aif+1]=(Bem (Sl k=Aa) ([DZ,E=Aa,-Cj,b]) ([DZ,E=Aa,-Cj,b+1])):=by
  rw[Td,r,k];·let W:=j.mp r;let F:Aif=([DZ,E=Aa,-Cj,b]):=R.uniq (by cases E with|true=>rw[Yl,M];rw[Th,by grind[aq,le_refl],Acm az aq ah]|false=>rw[M];rw[Th,G,B]);let z:Caq x Clh=0:=s.zero.mpr (by change Pb-sk (Aif)=0;rw[F,M];cases E with|true=>rw[Vm,tF];rw[aq,W];grind|false=>grind);rw[Av z,F,Av (Bx r)]
  ·rw[UF,W,a,Aol,q,r (j.mpr q)];let F:Aif=([Gz,E=Aa,-Cj-1,b]):=R.uniq (by cases E with|true=>rw[Yl,M];rw[az,ah]at B;rw[Th,Acm eW aq ah,Cvr [Bca,-Cj-1+1=-Cj] aq]|false=>rw[M];rw[Th,G,B]);rw[Tx,z,¬Caq x Clh=0,q,by let q:Pb-sk (Aif)=0:=s.zero.mp q;rw[F,M]at q;rw[az,ah]at B;cases E with|true=>rw[Yo,q];rw[eW,aq,ah]at q;grind|false=>grind]
   rw[AF z,F,B_ r];cases E with|true=>rw[Wv,tF];omega|false=>rw[UC,um,tO]
 let F:Aif=(DZ (E=Aa) ([Bem,Sl k=Aa,-Cj,-Cj-1]) b):=by
  rw[Td,r,k];·rw[Bx r];show R.uniq ?_;let W:=j.mp r;cases E with|true=>rw[Yl,M];rw[M,W];rw[Th,Cb aq Cil,Acm az aq ah]|false=>simp only[um,tO]at M|-;rw[M];rw[Th,G,B]
  ·rw[B_ r];rw[UF,W,a,Aol,q,r (j.mpr q)];let L:Aol<a:=cF G (uc W);show R.uniq ?_;cases E with|true=>simp only[tF,um,tO]at M|-;rw[M];rw[az,ah]at B;rw[Th,Acm eW aq ah,Cvr [Bca,-Cj-1+1=-Cj] aq]|false=>simp only[um,tO]at M|-;rw[M];rw[Th,G,B]
 rw[Td,Z,A=0]
 ·rw[Av Z,Av Z];let X:CA (2*Cj-1)=2*Aol-1:=by rw[eW,ak,ah,U]
  let S:CA (2*Cj+1)=2*Aol+1:=by rw[az,ak,ah,U]
  let H:CA (2*(Cj+1)-1)=2*Aol+1:=by rw[<-S];congr 1;omega
  let p:CA (2*(Cj+1)+1)=2*Aol+3:=by rw[az,ak,az,ah,U];grind
  rw[az,ah]at B;let y:sab a [Ay,[Iz,(Sl c||(Sl d&&AQ (b%2) 1))=Aa,b+1,b]]:=by
   rw[Td,g,c];·let I:=l.mp g;rw[Bx g,seI,JO];rw[Tp,Acm xG sdE H,Acm xG sdE p,Axc];rw[xG,sdE,H,p]at z;exfalso;rw[Xt]<;>grind
   ·rw[Tx,I,¬sk (2*Cj+1)<2*a,q,g (l.mpr q)];rw[B_ g,sdF];rw[Um,d]
    ·let D:=h.mp e;rw[Bx e,sac];rw[Td,o,b%2=1];·rw[Bx o,JO];rw[Tp,Acm xG sdE H,Acm xG sdE p,Cld]
     ·rw[B_ o,Aye];rw[Tp,DR X,DR S,Cld]
    ·rw[Tx,D,¬2*a=sk (2*Cj+1),q,e (h.mpr q)];rw[B_ e,vG,Aye];rw[Tp,DR X,DR S,Axc];rw[X,S]at z;rw[S]at D;exfalso;rw[Xt]<;>grind
  generalize([Iz,(Sl c||(Sl d&&AQ (b%2) 1))=Aa,b+1,b])=w at y|-;cases E with|true=>rw[Yo,M];rw[M]at f;rw[f.uniq y.neg];omega|false=>rw[Vz,um,tO,M];rw[M]at f;rw[f.uniq y];omega
 ·rw[AF Z,AF Z];rw[Td,V,A=1];·rw[Av V,Av V,F];cases E<;>cases Sl k<;>simp<;>omega
  ·rw[AF V,AF V];rw[Td,P,A=2];·rw[Av P,Av P,C];cases E<;>cases Sl k<;>simp<;>omega
   ·rw[AF P,AF P,C,F];cases E<;>cases Sl k;·rw[UC,um,tO];rw[Nj];omega
    ·rw[VC,um,tO,tF];rw[Nj];omega
    ·rw[VC,um,tO,tF];rw[My];omega
    ·rw[VC,um,tO,tF];split<;>omega
def gw{a b:Nat}:Ack a<=Lc b↔a<=b:=Hy eP Rat.natCast_le_natCast
def aao{a b:Nat}:Ack a<Lc b↔a<b:=Hy lW shD
def eY(a b:Nat):Aax (a+b)=Lc a+Lc b:=Hy Rat.natCast_add wb
def ms(a b:Nat):Aax (a*b)=Lc a*Lc b:=Hy Rat.natCast_mul vM
def cJ{c:K}(L:0<c):a*c<b*c↔a<b:=by
 rw[TH]
 ·rw[UH];rcases gn (a:=b-a)with q|q|q;·grind
  ·let:a=b:=Aq
   rw[Tg,this];rw[T',Ab,(bW h)]
  ·let:=af (Bpi (0<a-b)) L;grind
 ·rw[UH];let:=af (Bpi (0<b-a)) L;grind
def bo{c:K}(L:0<c):a*c<=b*c↔a<=b:=by
 rw[TH]
 ·rw[UH];rw[Wr,le_total a b];·grind
  ·let:=ae (am L) q;rw[Tq,N,(a-b)*c=0]
   grind[bV]
 ·show ae (am L)
def eZ{c:K}(L:0<c):a*c=b*c↔a=b:=by
 rw[TH];·rw[UH];show Bpm _ ((bo L).mp Ag) ((bo L).mp Ag)
 ·grind
def ajz(v:Bno)(O:AD=2^AH){u:Nat}(M:Pb=[Gz,E=Aa,-a,a])(hp:0<a)(hB:a<Bub)(G:Lc u<=a*Aep)(h2:a*Aep<Cst (u+1))(hm:B=Aa↔Lc u<a*Aep)(A:Nat):Cfh (Coa t x)=sdD u B E A:=by
 let hP:EY<Aep:=cG (iO FL);rw[VS,hd,Dd,d];let d1:1<=d:=by grind[aan]
 let dl:u<2^(53+d):=by grind[ajw]
 let dg:1<d->2^(52+d)<=u:=by grind[ajx]
 let dB:d<=1923:=by
  rw[Td,f,1<d]
  ·let F:=dg f;let D:Ack u<Aja 1975:=by let:a*Aep<Bub*Aep:=Hg (cJ hP) hB;rw[<-ms,<-sK]at this;show shE G this
   let L:=aao.mp D;let I:2^(52+d)<2^1975:=sdG F L;let:=(sjr (AE:1<2)).mp I;omega
  ·omega
 rw[Tx,l0,Bnv q (Avd x q=Aa↔a<Abd),q,by rw[gq v O,M];cases E with|true=>rw[Th,GG Aq,GG [Bhb,Aq]]|false=>rw[UC,um,tO];rw[Th,GG Aq,GG [Bhb,Aq]]]
 rw[Tx,D0,RG n (a<DW (Jc (Ay 53+Au Awr+LD))↔a*Aep<Aja (54+n)),n,by rw[<-aak (a:=Ay 53+Au Awr+LD) (b:=FL) (c:=54+n) Ac,vM];show Om (cJ hP)]
 let O0:double.place t x=Ajf-FL:=by
  unfold Format.place double;rw[TD];let:least (Cms [Avd,x,(Jc (Ay 53+Au Awr+LD))])=d-1:=by
   show aaj (BV i j Q0 h) ?_ Ac [AV,j,C];·rw[l0,D0]at h|-;show sad h (gw.mpr (OF))
   ·rw[l0,D0];show sad h2 (gw.mpr ?_);rw[FZ (54+(d-1)=53+d)];omega
   ·cases q:Avd x (Jc (Ay 53+Au Awr+Au j))with|false=>rfl|true=>rw[l0,D0]at q;let F:=dg Ac;let D:Ack u<Aja (54+j):=shE G q;let L:=aao.mp D;let I:2^(54+j)<=2^(52+d):=OF;omega
  rw[this];omega
 let H:EY<Ake:=cG (iO d);let C0:Bdi (Jc (-(Ajf-FL))) x=2^AH:=by rw[bH];show O
 let ev:Bbe (Fh (Jc (-(Ajf-FL))) x)=[DZ,E=Aa,-(a*DW (Jc (-(Ajf-FL)))),a*DW (Jc (-(Ajf-FL)))]:=by rw[bn _ rs (by rw[v.len];show O),M];cases E with|true=>rw[Vm,tF];grind|false=>rw[UC,um,tO];grind
 let eq:a*DW (Jc (-(Ajf-FL)))*Ake=a*Aep:=by rw[<-aak (a:=-(Ajf-FL)) (b:=d) (c:=FL) Ac,vM];grind
 let pp:0<a*DW (Jc (-(Ajf-FL))):=af hp (cG (ma _));generalize Q:Fh (Jc (-(Ajf-FL))) x=y at C0 ev;generalize a*DW (Jc (-(Ajf-FL)))=c at ev eq pp;rw[VS,Z,u/2^d,b];rw[VS,hr,u-b*2^d,R];let Y:=uz d;let us:u=b*2^d+R:=by let:=Dbz (2^d);rw[Tt,Z];omega
 let rl:R<2^d:=by let:=sdH u Y;let e:=Nat.div_add_mod u (2^d);rw[Z,zf]at e;omega
 let S:2^d=2*2^(d-1):=by rw[Us,k,rfl,k,d=k+1,d-1,AE];rw[t5,shF];omega
 let o:b<2^53:=by rw[<-Z];show(Nat.div_lt_iff_lt_mul Y).mpr ?_;rw[<-sK];show dl
 rw[Tx,kg,1<d->2^52<=b,h,by rw[<-Z];show(Dbr Y).mpr ?_;rw[<-sK];show dg h]
 let nP:Ack u=Lc b*Ake+Lc R:=by rw[us,eY,ms]
 let u1:Aax (u+1)=Lc u+1:=by rw[eY];congr 1;show uH
 let r0:EY<=Lc R:=scf _ Rat.natCast_nonneg;let U0:Ack R+1<=Ake:=by let:Aax (R+1)<=Ake:=gw.mpr Ac;rw[Tt,eY];let e:Aax 1=1:=uH;rw[Tt,e];rw[TQ]
 let b1:Aol<=c:=by rw[<-bo H,eq,bQ];grind
 let b2:c<sk (Cj+1):=by rw[<-cJ H,eq,az,ah,bQ];grind
 let fl:Fl (Bbe y) (Cok y):=by
  let T:c<Aja 54:=by show sad b2 ?_;rw[Bca (Cj+1=Ay (b+1)),bQ,gw];omega
  show aal v C0 (N:=54) Ac ?_ ?_<;>rw[ev]<;>cases E<;>rw[Wv,tF]<;>grind
 let I0:(¬(0<R\/B=Aa))↔c=Aol:=by
  rw[<-eZ H,eq,bQ,hm];rw[TH]
  ·rw[UH];rw[Uc,g,R=0]
   rw[Tx,e1,¬Lc u<a*Aep,z,h (Bw z)];let N:Ack R=0:=by rw[g];show cZ
   grind
  ·rintro h(z|z);·let:EY<Lc R:=cG (by let:=shD.mpr z;rw[TQ]);grind
   ·grind
 let P0:Aax (2^d)=2*Aja (d-1):=by
  rw[S,ms];let e:Aax 2=2:=by
   let:Aax (1+1)=2:=by rw[eY];let e:Aax 1=1:=uH;rw[e];grind
   rw[TQ]
  rw[e]
 let U:=Cuk;let E0:CA (2*Cj+1)*Ake=2*(Lc b*Ake+Aja (d-1)):=by rw[az,ak,ah,U,bQ];grind
 let r:∀{p q:Nat},p<q->Ack p+1<=Lc q:=λ{p q}h=>by let:Aax (p+1)<=Lc q:=gw.mpr h;rw[Tt,eY];let e:Aax 1=1:=uH;rw[Tt,e];rw[TQ]
 let J0:(2^(d-1)<R\/(R=2^(d-1)/\B=Aa))↔sk (2*Cj+1)<2*c:=by
  rw[<-cJ H,E0,Ckc (2*c*Ake=2*(c*Ake)),eq,hm];rw[TH]
  ·rintro(z|⟨z,l⟩);·let:=r z;grind
   ·rw[z]at nP;grind
  ·rw[UH];rw[UG,2^(d-1)<R];·rw[TB,z]
   ·rw[Td,l,R=2^(d-1)];·rw[TN,FY l];rw[l]at nP;grind
    ·let:=r (Bbm (R<2^(d-1)));grind
 let H0:(R=2^(d-1)/\¬B=Aa)↔2*c=sk (2*Cj+1):=by
  rw[<-eZ H,E0,Ckc (2*c*Ake=2*(c*Ake)),eq,hm];rw[TH];·rintro⟨z,l⟩;rw[z]at nP;grind
  ·rw[UH];rw[Tq,g,a*Aep=Lc b*Ake+Aja (d-1)]
   let l:R=2^(d-1):=by
    rw[UG,2^(d-1)<R];·let:=r z;grind
    ·rw[Td,z3,R<2^(d-1)];·let:=r z3;grind
     ·omega
   rw[Uf,l];rw[l]at nP;grind
 let W:=ajy v C0 fl ev pp b1 b2 I0 J0 H0 A;let ws:([CH,A=0,Gp (2^(d-1)<R\/(R=2^(d-1)/\B=Aa))||(Gp (R=2^(d-1)/\¬B=Aa)&&AQ (b%2) 1),[CH,A=1,E&&! Gp (¬(0<R\/B=Aa)),[CH,A=2,! E&&! Gp (¬(0<R\/B=Aa)),Af]]])=sa5 A b R (2^(d-1)) B E:=by
  unfold sa5;rw[Td,m0,A=0];·rw[Av m0,Av m0];cases B<;>rw[UG,2^(d-1)<R]<;>rw[Td,l,R=2^(d-1)]<;>rw[Td,z3,b%2=1]<;>simp[z,l,z3]
  ·rw[AF m0,AF m0];rw[Td,V,A=1];·rw[Av V,Av V];cases B<;>rw[UG,0<R]<;>simp[z]
   ·rw[AF V,AF V];rw[Td,P,A=2];·rw[Av P,Av P];cases B<;>rw[UG,0<R]<;>simp[z]
    ·rw[AF P,AF P]
 rw[ws]at W;let X:Bl [Bma,x] 0=E:=by let s:=(u8 v O).neg;rw[M]at s;cases E with|true=>rw[Yo,s];show Bx (s.mpr Ag)|false=>rw[Vz,um,tO,s];show B_ (λq=>Akv (s.mp q))
 let rb:sdD u B E A=(d-1)*2^52+[Cv,sa5 A b R (2^(d-1)) B E=Aa,b+1,b]+[Cv,E=Aa,2^63,0]:=by unfold sdD;rw[VC,hd,Z,hr]
 rw[rb,<-W];let J:AX (Car t y)<=2^53:=by rw[W];split<;>omega
 rw[Tx,w,1<d->2^52<=AX (Car t y),h,by rw[W];let:=kg h;split<;>omega]
 unfold Format.round;rw[VC,X,O0,Q];rw[Ti,G0,double.p=53];rw[Ti,eh,double.high=971];rw[G0,eh];generalize AX (Car t y)=m at J w;rw[Td,mm,m=2^53];·rw[Av mm,My];unfold doubleBits;rw[TD];rw[Aje (show¬(2^(53-1)<2^52)by decide)];cases E<;>rw[Wv,tF]<;>omega
 ·rw[AF mm,My];unfold doubleBits;rw[TD];rw[Td,ml,m<2^52]
  ·rw[Av ml];let:d=1:=by
    rw[UG,1<d];·let:=w z;omega
    ·omega
   rw[VF];cases E<;>rw[Wv,tF]<;>omega
  ·rw[AF ml];cases E<;>rw[Wv,tF]<;>omega
end
end Rd
namespace Core
section
variable{cl:uF}{m:Nat}{ρ:sM}{st:sd}{α β:Type}
def bJ{f:α->sd->sA β}:Kp [Aam,a] f=f a st:=rfl
def ajA{f:α->sd->sA β}:(sA.err x st:sA α).bind f=Bew:=rfl
def aap{a:α}:LA (Gj)=Jy a:=rfl
def gx{a:α}:v7 Aa st a=Jy a:=rfl
def asT:uj (Ea::ρ) 0=Ea:=rfl
def asU:uj (o::ρ) (i+1)=Ano:=rfl
def asV:Cke (o::ρ) 0=v::ρ:=rfl
def asW:Cke (o::ρ) (i+1)=o::Cke ρ i:=rfl
def asX:Cke ([]:sM) i=[]:=rfl
def aaq:CB (Ael)=LA (Ano):=rfl
def ajB:CB (.lit d)=Btv:=rfl
def asY:CB (.bin o a b)=Aor Awu y [Agh,o,x,y]:=rfl
def sjs(st:sd):D->KL|.int i=>On (-i)|_=>AJ
def asZ:CB (.neg a)=[Ph,CB a,sjs st x]:=rfl
def as_:sjs st OU=On (-i):=rfl
def as0:CB (.not a)=Aor Lx b [GA,(! b)]:=rfl
def as1:sbR st (Mz)=Jy b:=rfl
def as2:CB (.cmp o a b)=Aor Awu y [IB,o,x,y]:=rfl
def as3:CB (Bgj a b c)=Ph [CB,a] [Boe,Awu,y,IB .le x y,p,Jg (sbR st p) p [Gz,p=Aa,[Jg,CB c,z,IB .le y z],Cnr]]:=rfl
def as4:CB [Azr,R]=sbS cl R ρ st:=rfl
def as5:CB (.or R)=sbT cl R ρ st:=rfl
def as6:sbS cl (EJ e) ρ st=Ms Oz Lx b [GA,b]:=rfl
def as7:sbS cl [Sm,e,A,R] ρ st=Ms Oz Lx b [Bo,b=Aa,sbS cl [NT,A,R] ρ st,Cnr]:=rfl
def as8:sbT cl (EJ e) ρ st=Ms Oz Lx b [GA,b]:=rfl
def as9:sbT cl [Sm,e,A,R] ρ st=Ms Oz Lx b [Bo,b=Aa,GA Aa,sbT cl [NT,A,R] ρ st]:=rfl
def ata:CB (.ite c a b)=Ms [CB,c] Lx p [Bo,p=Aa,CB a,Awu]:=rfl
def atb:CB (BH R)=Ru R ρ C [MH,QG,KG]:=rfl
def atc:CB (PY R)=Ru R ρ C [MH,QG,Fo]:=rfl
def cM:CB (.new R)=Ru R ρ C [Il,QG,(st++[Fo]),Bsg]:=rfl
def ajC:CB .sbM=Dr Bsg (st++[Pw []]):=rfl
def atd:CB (.idx a b)=Aor Awu y [Rs,x,y]:=rfl
def ate:CB (.tab t b)=Jg Awu y [LA,(xD t y)]:=rfl
def atf:CB (.zQ a V)=[Aor,CB V,h,ux st x GO h]:=rfl
def sfb(st:sd)(x l:D):KL:=[Com,Anv x,ux st x l (AZ BC)]
def atg:CB (.zR a B)=[Aor,CB B,l,sfb st x l]:=rfl
def ath:CB (.sl a B V)=Aor [CB,B] l [Jg,CB V,h,ux st x l h]:=rfl
def ati:CB (HQ a c i)=[Ph,CB a,LA ([Ati,wx st c x,FF i])]:=rfl
def atj:CB [Bgx,f,R]=Ru R ρ C (cl f C st):=rfl
def shG(cl:uF)(st:sd)(x:D)(C:Fs):KL:=Cxz (cl f C st) [Ajb,QG=Aa,(cl f (C++J) st).wZ]
def atk:CB (.wV a R)=[Aor,MZ R ρ,C,shG cl st x C]:=rfl
def atl:shG cl st (.fn f) C=cl f C st:=rfl
def atm:shG cl st (.sG f J) C=Ajb (QG=Aa) (cl f (C++J) st).wZ:=rfl
def atn{a:α}:(Aam a).wZ=Jy a:=rfl
def ato:CB (.zS f a R)=[Aor,MZ R ρ,C,cl f (x::C) st]:=rfl
def atp:CB (.mk c R)=Ru R ρ C [MH,QG&&(sjn c==BC),Ll c C]:=rfl
def atq:CB (Ld p R)=Ru R ρ C [Aej,p,C]:=rfl
def sjt(st:sd)(x y:D):KL:=Czh [MH,Azm x&&Azm y,Ft (vL x++47::vL y)]
def atr:CB (.sbN a b)=Aor Awu y (sjt st x y):=rfl
def ats:sjt st (AZ x) (AZ y)=MH (Azm x&&Azm y) [Ft,vL x++47::vL y]:=rfl
def ajD:MZ BY ρ=Cnp:=rfl
def ajE:MZ [NT,e,R] ρ=Ms Oz [MZ,R,ρ] C [Ce,x::C]:=rfl
def yr(st:sd):D->sA sN|.str s=>Bmd (s.map λc=>DA Ahu)|d=>Ce Axs
def att:Bsm (MN e)=Ph Oz (yr st x):=rfl
def atu:yr st (KG)=Ce [Et,KG]:=rfl
def atv:yr st (Fo)=Ce [Et,Fo]:=rfl
def atw:yr st (FX i)=Ce [Et,FX i]:=rfl
def atx:yr st (Cw s)=Bmd (s.map λc=>DA Ahu):=rfl
def aty:Bsm (Qd e)=Ado Oz x [Qd,x]:=rfl
def slq(st:sd)(x y:D):sA sN:=[Cxj,Bmd (Awg),Bmd (Awg)]
def atz:Bsm (.zip a b)=Aor Awu y (slq st x y):=rfl
def sju(st:sd):D->sA sN|.int i=>[MH,Qk i&&Azl i,Ly (Bro JT [Bin,Ahp k])]|_=>AJ
def atA:Bsm (Buo e)=Ph Oz (sju st x):=rfl
def sjv(st:sd):D->sA sN|.dict T=>Bmd (T.map λp=>Cnt)|_=>AJ
def atB:Bsm (.keys e)=Ph Oz (sjv st x):=rfl
def atC:Aan (.set i e)=Ado Oz v [Bic,(Bxu Abe)]:=rfl
def sae(ρ:sM)(a:Nat)(v:D)(st:sd):Mr:=Dam Ami [Alu,(Ajs&&Bl BC uq)=Aa,DJ ρ (Alj [DK,C++[v]]),AJ]
def mu:uT (st++[Fo]) Iv=Aa:=CO uT
def e_(h:Ano=Ape)(z:uT st a=Aa):Aan (.app i e)=Jg Oz v (sae ρ a v st):=by change Apo (uj _ i) _ _=_;rw[h];change Oy (uT _ a=Aa)=_;rw[Av z];rfl
def e9(h:Ano=Ape)(z:Ami=Bnb):CB (.ao i)=Dr Bst [Alj,Adx]:=by change Apo Ano _ _=_;rw[h];change(match Ami with|some (.lst xs)=>_|some (.dict T)=>_|_=>_)=_;rw[z]
def atD:Aan (.expr e)=Ado Oz _ Bsh:=rfl
def atE:Aan (NV e)=Ado Oz v [NV,v]:=rfl
def sL(st:sd)(k:Nat)(C:Fs):Mr:=Cfj (sC k C) Bew AJ
def atF:Aan (Bie k R)=Ru R ρ C (sL st k C):=rfl
def atG:Aan (.ite c a b)=Ms [CB,c] Lx p [Bo,p=Aa,Nu a ρ,Nu b ρ]:=rfl
def scl(cl:uF)(m:Nat)(B:Ss)(i:yq)(st:sd):Mr:=match i with|.next ρ=>Nu B ρ|.ret d=>Ccn
def atH:Nu BY ρ=Ce Bsh:=rfl
def iP:Nu [NT,s,B] ρ=[Jg,Aan s,i,scl cl m B i st]:=rfl
def atI:scl cl m B (Bsh) st=Nu B ρ:=rfl
def ajF:scl cl m B (Bbh) st=Ccn:=rfl
def fe:SQ n [Ce,Bbh]=[Aub,Abi=Aa,Jd (Cix)]:=rfl
def ajG:SQ n [Ce,Bsh]=Ew Bt (Cix):=rfl
def mv:SQ n Bew=CM x (Cix):=rfl
def aar:Adu CI=Ce CI:=Bnq
def atJ:Adu [Ff,i]=GA i:=Bnq
def iQ:Adu [BH,i]=Ce [BH,i]:=Bnq
def aS:Adu [CW,i]=Me i:=Bnq
def atK:Adu [Cw,i]=Ce [Cw,i]:=Bnq
def iR:Adu [Ll,c,i]=Ce [Ll,c,i]:=Bnq
def ajH:Chk [NV,Bt]=Jy Bt:=Bnq
def ajI:Chk Bsh=Jy Bt:=Hy ajG yt
def aas:SQ Iv Bew=Bew:=Hy mv yt
def dt(h:RJ=f.np):zW cl m f B st=SQ Iv [Nu,f.body,(B.map Aul++Azb (f.ns-f.np))]:=by grind[zW]
def atL:wy Bt=Aa:=rfl
def atM:wy OU=Af:=rfl
def atN:wy (KG)=Af:=rfl
def atO:wy (Fo)=Af:=rfl
def atP:t4 Bt=Aa:=rfl
def atQ:GL Mz=Aa:=rfl
def atR:t4 OU=Aa:=rfl
def atU:GL [Cw,s]=Aa:=rfl
def atV:GL KG=Aa:=rfl
def atW:GL Fo=Aa:=rfl
def atX:GL [Ll,c,C]=Aa:=rfl
def atY:GL [Pw,T]=Aa:=rfl
def atZ:Bdr Bfk Bfl=On (a+b):=rfl
def at0:Baa .sub=On (a-b):=rfl
def at1:Baa .mul=[Btn,tj a b,a*b]:=rfl
def at2:Baa Bvk=[Btn,Sf b,a.fdiv b]:=rfl
def at3:Baa .mod=[Btn,Sf b,a.fmod b]:=rfl
def at4:Baa .shl=[Btn,t_ a b,a*2^Bmx]:=rfl
def at5:Baa .shr=[Btn,Bn 0 b,a/2^Bmx]:=rfl
def at6:Baa Bvl=ym (·&&&·) st a b:=rfl
def at7:Baa .bor=Cip st a b:=rfl
def at8:Baa .bxor=ym Cuj st a b:=rfl
def at9:Bdr (Cw a) (Cw b)=MH (sY HY Aic) [Ft,a++b]:=rfl
def ajJ:Bdr (BH a) (BH b)=MH (sY HY Aic) [HJ,a++b]:=rfl
def mw:Bdr (CW a) (CW b)=Cam (sY HY Aic) [DK,a++b]:=rfl
def aua:Agh .mul (BH a) (AZ n)=[MH,Qk HY&&(Qk n&&Azl n),Cdt Bur a]:=rfl
def aub:IB .eq Bfk Bfl=GA (AQ a b):=rfl
def auc:IB .eq (Cw a) (Cw b)=GA (AQ a b):=rfl
def aud:IB .ne Bfk Bfl=GA (! AQ a b):=rfl
def aue:IB .ne (Cw a) (Cw b)=GA (! AQ a b):=rfl
def auf:IB .lt Bfk Bfl=GA (Bl a b):=rfl
def auh:IB .le Bfk Bfl=GA (Bn a b):=rfl
def aui:IB .gt Bfk Bfl=GA (RM):=rfl
def auj:IB .ge Bfk Bfl=GA (Bn b a):=rfl
def auk:IB .is a Bt=GA (wy a):=rfl
def aul:IB .zP a Bt=GA (! wy a):=rfl
def ajK:Rs (KG) OU=LA (vr C i):=rfl
def aat:Rs (Fo) OU=LA (vr C i):=rfl
def aau(h:Anv d=Jr):Rs d OU=LA (vr C i):=by unfold y_;cases d<;>simp_all[tP,uS,xC];case cell a=>cases e:Ami with|none=>simp_all|some c=>cases c<;>simp_all
def mx{k:Nat}:vr C Ey=Aik:=Ch
def my:Bhk [KG]=On BC:=rfl
def iS:Bhk [Fo]=On BC:=rfl
def ajL(h:Anv d=Jr):Bhk [d]=On BC:=by unfold vv sgR;cases d<;>simp_all[tP,uS,tG]
def aum:Aej .abs Aox=On ([Gz,i<0,-i,i]):=rfl
def mz:Aej .max [CI,EC]=On [Cv,j>i,j,i]:=rfl
def aun:Aej .divmod [CI,EC]=[MH,Bl 0 j,PK (i/j) (i%j)]:=rfl
def ajM{l:Ao}:Aej .sum [Cby MY]=On l.sum:=Bps vv I tG where I:∀l:Ao,wX (Ci MY)=II|[]=>rfl|i::r=>MV wX (I r)
def aav:∀l:Ao,wX (Ci MY)=II|[]=>rfl|i::r=>MV wX (aav r)
def mB:∀l:Ank,sbO (Ci .bl)=II|[]=>rfl|i::r=>MV sbO (mB r)
def aaw:∀l:Qb,zU (Ci LK)=II|[]=>rfl|i::r=>MV zU (aaw r)
def ajN:Aej .sorted [Cby MY]=[Cam,Bl Ah 64,DK [JX,yo l]]:=MV vv aav
def aax{l:Ank}:Aej .all [Cby .bl]=GA (l.all id):=Bps vv mB tG
def aay{l:Ank}:Aej .any [Cby .bl]=GA (l.any id):=Bps vv mB tG
def auo:Aej Art [Fo]=Ce KG:=rfl
def aaz:Aej LK Aox=[MH,Azm i,Ft Bmr]:=rfl
def aup:Aej .ord [Ahu]=On c:=rfl
def auq:Aej .yk Aox=On (xE i):=rfl
def aur:wx st c (Ll c I)=Bha:=CO wx
def aus:Anv (Fo)=Jr:=rfl
def aut:Anv (KG)=Jr:=rfl
def auu{f:NC α β}:Kp Gj f=f a:=rfl
def eM{l h:Nat}(O:0<BC):ux st (KG) (AT l) (AT h)=MH (!(l==0&&Bn BC h)) [HJ,t3 C l h]:=by
 rw[Tq,e,QO C=Af]
 unfold ux;change v7 ..=_;grind
def aaA{l h:Nat}:ux st (Bst) (AT l) (AT h)=Me (t3 xs l h):=by unfold ux;rw[TD];rw[Av [Aj,AE,AE],sP,sP];rfl
end
structure sN.Is(st:sd)(s:sN)(items:EV D D):Al where
 turn:Eu (Adr=Jy Bjn)
 size:Bnj=Boz
def ff:sN.Is o (Ly C) C:=Aku Arv
def dA(h:Bnw=Ae xs):sN.Is o (Axs) (xs.map λx=>DA x):=Aj [HN,by simp[sN.turn,h,tG,tD]] [MV,sN.size,h]
def vN:Aw->Fs->EV D D|_,[]=>[]|k,x::r=>(AZ k,x)::vN (k+1) r
def gy:∀(C:Fs)(j k:Nat),(vN j C)[k]?=Qz Aik x (Axx (j+k),x)|[],_,_=>CO vN|x::r,j,0=>CO vN|x::r,j,k+1=>by rw[UC,vN,sfc];rw[gy r (j+1) k];congr 2;funext y;congr 3;omega
def dR:∀(C:Fs)(j:Nat),An (vN j C)=BC|[],_=>rfl|x::r,j=>MV vN (dR r _)
def gz(h:Bnw=Ae xs):sN.Is o (Qd d) (vN 0 xs):=Aj [HN,by simp[sN.turn,h,tG,gy]] [Bps,sN.size,h,dR]
def ajO(P:s.Is o a)(g:D×D->D)(L:∀p∈a,c (Atr (MS (Aie))) o=Fw Aa)(R:∀p∈a,f (Atr (MS (Aie))) o=BN (g p)/\GL (g p)=Aa):tH c f i j A s HY 0 o=BN (a.map g):=by
 let C:∀(n k:Nat),k+n=HY->tH c f i j A s n k o=BN [Bp,a.drop k,g]:=by
  intro n;induction n with
  |zero=>intro k Z;let e:Axz=Ad:=Cci;rw[sjw Ac];simp[tH,Cag,e,sA.bind]
  |succ n d=>
   intro k Z;rw[Uc,x,k<HY]
   let K:=zg x;simp only[sjx x,tH,Cag,(Dz x),sA.bind,sA.wZ,L _ K,(R _ K).1,(R _ K).2,d (k+1) Ac,tF,tz]
 grind
def ajP(P:s.Is o a)(t:BU (D×D))(g:D×D->D)(L:∀p∈a,c (Atr (MS (Aie))) o=BN (t p))(R:∀p∈a,f (Atr (MS (Aie))) o=BN (g p)/\GL (g p)=Aa):tH c f i j A s HY 0 o=BN [Bp,a.filter t,g]:=by
 let C:∀(n k:Nat),k+n=HY->tH c f i j A s n k o=BN [Bp,(a.drop k).filter t,g]:=by
  intro n;induction n with
  |zero=>intro k Z;let e:Axz=Ad:=Cci;rw[sjw Ac];simp[tH,Cag,e,sA.bind,sA.wZ]
  |succ n d=>
   intro k Z;rw[Uc,x,k<HY]
   let e:Axz=Ae a[k]:=Dz x;let K:a[k]∈a:=zg x;rw[sjx x];cases q:t a[k]with|true=>simp only[tH,Cag,e,sA.bind,sA.wZ,L _ K,q,(R _ K).1,(R _ K).2,d (k+1) Ac,tF,wT,tz]|false=>simp only[tH,Cag,e,sA.bind,sA.wZ,L _ K,q,d (k+1) Ac,wT,um,tO]
 let:=C HY 0 Ac;rw[VO]
def aA(g:D×D->D)(G:Bmk=Jy s)(P:s.Is st items)(R:∀p∈items,Ceu b (Atr (Bxu (Aie)))=Ce (g p)/\GL (g p)=Aa):CB (.comp it i j b)=Me (items.map g):=by change Kx (xF ..)=_;rw[G,bJ,P.size,ajO P g Ag R,bJ]
def aaB(t:BU (D×D))(g:D×D->D)(G:Bmk=Jy s)(P:s.Is st items)(L:∀p∈items,Ceu c (Atr (Bxu (Aie)))=GA (t p))(R:∀p∈items,Ceu b (Atr (Bxu (Aie)))=Ce (g p)/\GL (g p)=Aa):CB (.yZ it i j c b)=Me (Bp (items.filter t) g):=by change Kp Bmk (KA s [Ado,tH (KA ρ [Ph,CB c,Lx]) (KA ρ Awu) i j ρ s (Bnj) 0 st,C,D.lst C])=_;rw[G,bJ,P.size,ajP P t g (Kg [Agj,L p Y,bJ]) R,bJ]
def aaC{a:EV D D}(I:Aw->Bhp)(P:∀k A o,I k A o->Aga o=Fw Axz)(B:∀k x y A o,Axz=Ep x y->I k A o->∃U V,f x y A o=R_/\I (k+1) U V)(H:I 0 A o):∃U V,uG f s HY 0 A o=R_/\I HY U V:=by
 let C:Dbx (k+n=HY->I k A o->∃U V,uG f s n k A o=R_/\I HY U V):=by intro n;induction n with|zero=>rw[Yh]|succ n d=>rw[Yh]
 simp_all
def aaD(G:xF r M A o=Fw s)(z:Avr o=n):Mo r (.xB i M b) A o=uG (λx _ A o=>Ml r b (Bcf) o) s n 0 A o:=by change Kp (xF r M A o) (λs o=>uG (λx _ A o=>Ml r b (Bcf) o) s (Avr o) 0 A o)=_;rw[G,bJ,z]
def iT(G:xF r M A o=Fw s)(z:Avr o=n):Mo r (.ww i j M b) A o=uG (λx y A o=>Ml r b (Aoh) o) s n 0 A o:=by change Kx (xF ..)=_;grind[bJ]
def ajQ:Mo r (.wW c b) A o=y8 (λA o=>Afr (ev r c A o) x o (sbR o x)) (λA o=>Ml r b A o) m A o:=rfl
def ajR(I:Bhp)(a:sM->sd->Aw)(Q:JH Mr)(s:∀A o,I A o->(c A o=Fw Af/\Q (Arq A))\/(c A o=Fw Aa/\((∃U V,b A o=R_/\I U V/\a U V<a A o)\/(∃d V,b A o=Akd/\Q (Akd))\/(∃x V,b A o=CM x V/\Q (CM x V))))):∀(n:Nat)(A:sM)(o:sd),I A o->a A o<n->Q (y8 c b n A o):=by intro n;induction n with|zero=>grind|succ n i=>grind[y8,sA.bind]
def fg(I:Bhp)(a:sM->sd->Aw)(Q:JH Mr)(s:∀A o,I A o->(ev cl c A o=JM Af/\Q (Arq A))\/(ev cl c A o=JM Aa/\((∃U V,Ml cl b A o=R_/\I U V/\a U V<a A o)\/(∃d V,Ml cl b A o=Akd/\Q (Akd))\/(∃x V,Ml cl b A o=CM x V/\Q (CM x V)))))(A:sM)(o:sd)(H:I A o)(K:a A o<m):Q (Mo cl (.wW c b) A o):=by
 rw[ajQ];show ajR I a Q (Bz A o h) m A o H K;rw[WN,s A o h,G,z,G,z];·show FJ [DY,G] z
 ·show Kq [DY,G] z
def iU{items:EV D D}(I:Aw->Bhp)(G:Bmk=Jy s)(z:Bnj=Boz)(P:∀k ρ st,I k ρ st->Adr=Jy Bjn)(A:∀k x y ρ st,Bjn=Ep x y->I k ρ st->∃U V,Nu b (Bgc)=R_/\I (k+1) U V)(H:I 0 ρ st):∃U V,Aan (.xB i it b)=R_/\I Boz U V:=[Cb,aaD G z,aaC I P A H]
def aaE{items:EV D D}(I:Aw->Bhp)(G:Bmk=Jy s)(z:Bnj=Boz)(P:∀k ρ st,I k ρ st->Adr=Jy Bjn)(A:∀k x y ρ st,Bjn=Ep x y->I k ρ st->∃U V,Nu b (Bcp (Bgc))=R_/\I (k+1) U V)(H:I 0 ρ st):∃U V,Aan (.ww i j it b)=R_/\I Boz U V:=[Cb,iT G z,aaC I P A H]
open Alg Alg.OK Tw Rd
def tI(x:Ao):D:=HJ Cfx
def uJ(g:JP):D:=HJ (g.map tI)
section
variable{st:sd}
def c5:Adu Fq=Ce Fq:=iQ
def bR:Bhk [Fq]=On AD:=Aiz tI my sr
def auv:yr st (Fq)=Ce [Et,Fq]:=rfl
def dC:GL Fq=Aa:=rfl
def mC:GL (uJ x)=Aa:=rfl
def ajS{k:Nat}(h:x[k]?=Ae z):Rs (uJ x) (LM)=Ce (tI z):=by rw[uJ,ajK,mx,tD,h];rfl
def ajT:Bhk [uJ x]=On AD:=Aiz uJ my sr
def mD(h:sY AD CK=Aa):Bdr (Fq) (Ajh)=Ce (tI (x++y)):=by grind[tI,ajJ,gx]
end
section
variable{K:Type}[OK K]
def vI(R:Ct):Aw->Ao->K|0,x=>sk (Bch 0)|l+1,x=>FO (Fi (2^l))+FO (BK (2^l))*Afk
structure xH(R:Ct)(sq:JP):Al where
 len:Afh=Ho
 pos:Eu (k<Ho->0<Qq)
 sa6:Cpv (Awx=AW->Aey=2^j->Qq*Qq=GP j c)
end
def sV(W:Ak):Aw->Ao->Aw|0,x=>AX (Bch 0)|l+1,x=>BZ (Fi (2^l))+BZ (BK (2^l))*HE
structure sa7(sq:JP)(W:Ak)(w:Nat):Al where
 three:Ho<=3
 at_:∀(k:Nat)(c:Ao),Awx=AW->∃j,j<=k/\Aey=2^j/\C_ j c<=Lo*Lo/\C_ j c<=2^w
 sfd:Cpv (Awx=AW->Aey=2^j->C_ j c<=(Lo-1)*(Lo-1))
 one:Bhv 1
def iW{x:Ao}(h:AD=2^(l+1)):An [Fi,(2^l)]=2^l/\An [BK,(2^l)]=2^l:=Aq
def dD(G:Bhv 1):Akt (AD=2^l->∀y∈x,AX y<=KR)
|0,x,O,y,Q=>by match x,O with|[a],_=>grind[sV]
|l+1,x,O,y,Q=>by
 rw[Tc,e,N,QR];rw[<-List.take_append_drop _ x,saf]at Q;unfold sV;rw[Yg];·let:=dD G e y Q;omega
 ·let:=dD G N y Q;let z:=sjy (BZ (BK (2^l))) (G l);omega
def cN(h:a<=2^b):a.log2<=b:=by
 rw[UG,a=0];·simp_all
 ·rw[Td,q,a.log2<=b];·grind
  ·let G:=Nat.log2_self_le z;let H:2^(b+1)<=2^a.log2:=OF;grind
def c6(M:Aau<=2^p)(T:AX b<=2^q)(h:p+q<=tr):tj a b=Aa:=by unfold tj uE;let:=cN M;let:=cN T;show Db
def fj(m n:Nat)(z:Int)(x:Ao)(o:sd)(T:∀y∈x,tj z y=Aa):Fa 1 27 Aeq Fq=Fw (tI (x.map (z*·))):=by rw[ahY,Ap];rw[UK,sg7,(aA (cl:=LX) (it:=Aeg) (i:=2) (j:=99) (b:=Ge Bf Df) (ρ:=[Dv z,GR x,Ad]) (st:=o) (λp=>match Ax with|.int y=>Ec (z*y)|d=>d) Em Aou (Kg (by simp only[zM]at Y;rw[Wy,_,⟨y,Q,rfl⟩,rfl];rw[UM,T y Q])))];rw[We,tI]
def ajU(k:Nat):Arc k [JS 0]=JX [LW,k,Ia]:=AY
def iX(m n:Nat)(x:Ao)(s:Nat)(o:sd)(G:AD<=s)(z:s<=BI):Fa 1 22 Fq Bvu=Ou (x++LW (s-AD) 0):=by
 rw[ahT,Ap];rw[Tq,W,DQ (s-Cds)=s-AD]
 rw[Ti,N,Qk 1=Aa];let J:Qk (s-Cds)=Aa:=Db;let e:Azl (s-Cds)=Aa:=Bx Ag;let B:Asi Avp [Bjd,LW (s-AD) (0)]=Aa:=by grind[sY,uq]
 simp only[sg2,tI,csAll,W,N,J,e,ajU,B,xI]
def aaF(h:Nat):Buz [Gq,2,h]=Au h:=Aq
def mE(m n:Nat)(x:Ao)(h:Nat)(o:sd)(G:AD=2*h)(z:1<=h):Cg (n+1) 23 [Fq]=Ou (Fi h):=by
 rw[ahU,Ap];rw[Ti,W,Sf Rq=Aa];let N:Buz Cds=Ay h:=by rw[sr,G];show aaF h
 let J:(!(Cn 0==0&&Bn Avp h))=Aa:=by rw[sr,G,MT];rfl
 let B:ux o (HJ Boh) GO (AT h)=BN [HJ,JX [Fi,h]]:=by change ux o (HJ Boh) (Axx 0) (AT h)=_;rw[eM (Fb sr),J,gx];unfold t3;rw[sfe,sa8]
 simp only[sg3,tI,csAll,W,N,B]
def mF(m n:Nat)(x:Ao)(h:Nat)(o:sd)(G:AD=2*h)(z:1<=h):Cg (n+1) 24 [Fq]=Ou (BK h):=by
 rw[ahV,Ap];rw[Ti,W,Sf Rq=Aa];rw[Tq,N,Buz Cds=(h)]
 rw[Tq,J,(!(h==0&&Bn Avp Avp))=Aa]
 let B:sfb o (HJ Boh) (AZ h)=BN [HJ,JX [BK,h]]:=by change ux _ (BH _) (AZ h) (Ec (An (x.map _)))=_;grind[eM,gx,t3,List.map_drop]
 simp only[sg4,tI,csAll,W,N,B]
def aaG(k:Nat):xE [Ay,2^k]=k+1:=by unfold xE;let:=uz k;rw[My,wc,sjz]
def aaH(m n:Nat)(x:Ao)(g:JP)(k:Nat)(c:Ao)(o:sd)(G:AD=2^(k+1))(z:g[k]?=AW):Fa 1 25 Fq (uJ g)=Ou c:=by
 rw[ahW,Ap];let W:((xE AD))-2=Ey:=by grind[aaG]
 rw[Uh,sg5,bR,W,ajS z,c5]
def aaI(f:D×D->D)(g:Bm->Bm->Bm)(R:∀a b,f (Agq,Alf)=Ec (g a b)):∀x y:Ao,Bp ((Boh).zip (y.map D.int)) f=JX [Ciq,g,x,y]|[],_=>rfl|_::_,[]=>rfl|a::x,b::y=>MV R (aaI f g _ x y)
def vO(s:Nat)(x:Ao):Ao:=x++LW (s-AD) 0
def u9(x y:Ao):Ao:=Ciq (·+·) (Pc (Ik AD CK)) (vO (Ik AD CK) y)
def iY(m n:Nat)(x y:Ao)(o:sd)(G:AD<=BI)(z:CK<=BI):Fa 2 26 Fq Ajh=Ou (u9 x y):=by
 rw[ahX,Ap];rw[Tq,W,(if CK>Au AD then Au CK else AD)=((Ik AD CK))]
 let L:=aA (cl:=Bb (n+1)) (it:=.zip (Axk 22) (Aix 22 HW)) (i:=3) (j:=4) (b:=Bmb Dg) (ρ:=[GR x,GR y,Dv (Cn [Ik,AD,CK]),Ad,Ad]) (st:=o) (s:=Ly ((Bp [Pc,_] _).zip (Bp (vO _ y) _))) (λp=>match p with|(.int a,.int b)=>Ec (a+b)|p=>Ax) (by rw[Vt,(iX m n x (Ik AD CK) o Ac Ac),(iX m n y (Ik AD CK) o Ac Ac)];rfl) ff (Kg (by rw[Tc,F,H,seA Y];simp at F H;obtain⟨a,_,J⟩:=F;obtain⟨b,_,B⟩:=H;obtain⟨V,Q⟩:=p;subst J B;rw[Wx]));rw[aaI _ _ (λa b=>Ab)]at L;rw[Ti,N,vv _ Art [Dq [Bp,Ciq _ _ _,_]]=Ou (u9 x y)];rw[UN,sg6,bR,W,L,N,c5]
def mG(m n:Nat)(x y:Ao)(o:sd)(G:AD<=BI)(H:CK<=BI)(T:∀z∈y,uE z<=tr):Fa 3 28 Fq Ajh=Fw (tI (u9 x (y.map (-1*·)))):=by
 rw[ahZ,Ap];rw[UA,sg8,(fj m (n+1) Hj y o (λz B=>by
  unfold tj;let:uE Hj=0:=Ch
  grind)),(iY m n x (y.map (-1*·)) o G (by grind)),c5]
def auw{y:Ao}(h:AD=n):Hu (x++y) n=x:=Aq
def aux{y:Ao}(h:AD=n):(x++y).drop n=y:=by rw[<-h,shC];rfl
section
variable{K:Type}[OK K]
def iZ(R:Ct)(O:AD=2^l):GP (l+1) (x++y)=Abp+FO y*Afk:=Chj (FO _+FO _*Afk=_)
def mH(R:Ct):∀(l n:Nat),FO (LW n 0)=0|0,n=>by grind[vI,aH]|l+1,n=>by rw[vI,List.take_replicate,List.drop_replicate,mH R l,mH R l];grind
def mI(R:Ct):∀{l:Nat}{x y:Ao},AD=2^l->CK=2^l->FO Czr=Abp+FO y
|0,x,y,O,Q=>by match x,O,y,Q with|[a],_,[b],_=>simp[vI,az]
|l+1,x,y,O,Q=>by rw[Vi,QR];rw[Tc,F,H,iW Q];unfold vI;rw[List.take_zipWith,List.drop_zipWith,mI R G F,mI R z H];grind
def ci(R:Ct)(z:Int):Akt (AD=2^l->FO Cqv=sk z*Abp)|0,x,O=>by grind[vI,ak]|l+1,x,O=>by rw[Tc,G,H,QR];unfold vI;rw[<-sa8,<-sch,ci R z G,ci R z H];grind
def i_(R:Ct)(O:AD=2^l):∀(k:Nat),GP (l+k) (Pc (2^(l+k)))=Abp
|0=>MV vO O
|k+1=>by
 let e:Pc (2^(l+(k+1)))=Pc (2^(l+k))++LW (2^(l+k)) 0:=by unfold vO;rw[uk,sjA];congr 2;rw[<-sdI];let:2^l<=2^(l+k):=OF;omega
 let U:An [Pc,(2^(l+k))]=2^(l+k):=by grind[vO,List.length_append]
 rw[e,<-sdI,iZ R U,i_ R O k,mH];grind
end
def i8(W:Ak)(O:AD=2^l):C_ (l+1) (x++y)=KR+BZ y*HE:=Chj (BZ _+BZ _*HE=_)
def mJ(W:Ak):∀(l n:Nat),BZ (LW n 0)=0
|0,n=>by
 unfold sV;let:Aac [LW,n,Ia] 0 0=0:=by rw[w_,List.getElem?_replicate];split<;>rfl
 rw[this];rfl
|l+1,n=>by unfold sV;rw[List.take_replicate,List.drop_replicate,mJ W l,mJ W l,Nat.zero_mul]
def mK(W:Ak):∀{l:Nat}{x y:Ao},AD=2^l->CK=2^l->BZ Czr<=KR+BZ y|0,x,y,O,Q=>by grind[sV]|l+1,x,y,O,Q=>by rw[Vi,QR];rw[Tc,F,H,iW Q];unfold sV;let X:=mK W G F;let A:=EZ (HE) (mK W z H);grind
def cj(W:Ak)(z:Int):Akt (AD=2^l->BZ Cqv=GD*KR)|0,x,O=>by grind[sV,Int.natAbs_mul]|l+1,x,O=>by rw[Tc,G,H,QR];unfold sV;rw[<-sa8,<-sch,cj W z G,cj W z H,Nat.mul_add,we]
def c7(O:AD=2^l)(h:l<=k):An [Pc,(2^k)]=2^k:=Cvd vO zh
def i9(W:Ak)(O:AD=2^l):∀(k:Nat),C_ (l+k) (Pc (2^(l+k)))=KR
|0=>MV vO O
|k+1=>by
 let e:Pc (2^(l+(k+1)))=Pc (2^(l+k))++LW (2^(l+k)) 0:=by unfold vO;rw[uk,sjA];congr 2;rw[<-sdI];let:2^l<=2^(l+k):=OF;omega
 rw[e,<-sdI,i8 W (c7 O Ac),i9 W O k,mJ];omega
def ajV(a b:Nat):Ik (2^a) (2^b)=2^Abx:=by
 rw[Tv,a<=b];·rw[shH h,shH (Mc h)]
 ·rw[Uc,g,b<=a]
  rw[sff g,sff (Mc g)]
def mL(O:AD=2^a)(Q:CK=2^b):u9 x y=Ciq (·+·) (Pc (2^Abx)) (vO (2^Abx) y):=by grind[u9,ajV]
def dS(O:AD=2^a)(Q:CK=2^b):An (u9 x y)=2^Abx:=by grind[mL,c7]
def dU{K:Bq}[Dw](R:Ct){x y:Ao}{a b:Nat}(O:AD=2^a)(Q:CK=2^b):GP (Abx) (u9 x y)=GP a x+GP b y:=by rw[mL O Q,mI R (c7 O Ac) (c7 Q Ac)];rw[Us,i,V,i,Abx=a+i,Abx-a,AE];rw[Us,j,C,j,Abx=b+j,Abx-b,AE];grind[i_]
def dW(W:Ak)(O:AD=2^a)(Q:CK=2^b):C_ (Abx) (u9 x y)<=C_ a x+C_ b y:=by rw[mL O Q];show Bef (mK W (c7 O Ac) (c7 Q Ac));rw[Us,i,V,i,Abx=a+i,Abx-a,AE];rw[Us,j,C,j,Abx=b+j,Abx-b,AE];grind[i9]
structure scm(sq:JP)(W:Ak)(lx:Nat)(x:Ao)(ly:Nat)(y:Ao)(l:Nat)(z:Ao):Al where
 len:LH=2^l
 sV:BZ z<=C_ lx x*C_ ly y
 val:Rv (RY->FO z=GP lx x*GP ly y)
def dE(h:l<=3):2^l<=8:=by let:2^l<=2^3:=Mc h;omega
def ja{x:Ao}(h:AD=2^0):∃a,x=Hi:=Czi
def aP(h:a+b<=BI):sY a b=Aa:=Bx Cre
def aaJ(S:sa7 g W w)(m:Nat)(o:sd):∀(L n i X p q:Nat)(x y:Ao),i<=L->X<=i->i<=Abk->AD=2^i->CK=2^X->C_ i x<=2^p->C_ X y<=2^q->p+q+i*w<=tr->∃z,Cg (n+L+3) 29 [Fq,Ajh,uJ g]=Ou z/\scm g W i x X y i z:=by
 intro L;induction L with
 |zero=>
  intro n i X p q x y h1 h2 h3 O Q Y Z T;rw[Vr,i=0]
  rw[Vr,X=0]
  let e1:Blg AD CK=Af:=B_ Ag;let N:FU AD 1=Aa:=Bx Ag;rw[Tc,a,t,ja O];rw[Tc,b,eb,ja Q];let G:tj a b=Aa:=c6 (p:=p) (q:=q) (by subst t;simpa[sV]using Y) (by subst eb;simpa[sV]using Z) Ac;rw[XC,i1,Bhx (Fq),Cmm,t]
  rw[XC,i2,Bhx (Ajh),JL b,eb]
  show⟨[a*b],?_,Ab,?_,BV K _ R _⟩;·rw[iH,Ap];rw[Uy,sbY,bR,e1,N,i1,i2,G];rfl
  ·subst t eb;simp[sV,yu]
  ·subst t eb;simp[vI,ak]
 |succ L d=>
  intro n i X p q x y h1 h2 h3 O Q Y Z T;rw[Td,H0,i<=L];·rw[Te,z,hz,hm,d (n+1) i X p q x y H0 h2 h3 O Q Y Z T];rw[Tp,z,by rw[FZ (n+(L+1)+3=n+1+L+3)];show hz,hm]
  ·rw[Vr,i=L+1]
   rw[Wu,s3];let pw:=uz L;let pL:=dE (l:=L) Ac;rw[Tc,M,C0,QR];let e1:Blg AD CK=Af:=B_ [Cif,2^X<=2^(L+1),Mc h2];rw[UW,N,FU AD 1=Af];let fh:=mE m (n+L+2) x (2^L) o Ac Ac;let sh:=mF m (n+L+2) x (2^L) o Ac Ac;let W1:=S.one L;rw[Ti,nx,C_ (L+1) x=LP (Fi (2^L))+LP (BK (2^L))*Auf];let nb:LP (BK (2^L))<=LP (BK (2^L))*Auf:=Bbc W1;let I0:(L+1)*w=L*w+w:=Fb sag
   rw[Td,U,X<=L]
   ·let J:Blg CK AD=Aa:=Bx (by rw[O,Q];let:2^X<=2^L:=Mc U;rw[t5];omega);rw[Te,z1,h,V,d n L X p q (Fi (2^L)) y Do U Ac M Q Ac Z Ac];rw[Te,l,l0,P,d n L X p q (BK (2^L)) y Do U Ac C0 Q Ac Z Ac];let lf:sY [AG,z1] Ah=Aa:=aP [Aqb,V.len,P.len];show[Cvz,z1++l,BV K _ R H];·rw[FZ (n+(L+1)+3=(n+L+3)+1),iH,Ap];simp only[sbY,csAll,bR,e1,N,fh,sh,J,h,l0,mD lf,c5]
    ·rw[su,V.len,P.len,t5];omega
    ·rw[i8 W Aad,nx,sag];let r:=V.sV;let v:=EZ (Auf) P.sV;rw[show LP (BK (2^L))*C_ X y*Auf=LP (BK (2^L))*Auf*C_ X y by rw[Nat.mul_right_comm]]at v;omega
    ·rw[iZ R Aad,V.val K R H,P.val K R H];change _=(GP L (Fi (2^L))+GP L (BK (2^L))*Cex L)*GP X y;grind
   ·rw[Vr,X=L+1]
    rw[Tc,hc,hd,iW Q];let J:Blg CK AD=Af:=B_ [Aqb,O,Q];let fy:=mE m (n+L+2) y (2^L) o [Aqb,Q,t5] Ac;let sy:=mF m (n+L+2) y (2^L) o [Aqb,Q,t5] Ac;rw[Ti,ny,C_ (L+1) y=LP (y.take (2^L))+LP (Beg (2^L))*Auf];let k:LP (Beg (2^L))<=LP (Beg (2^L))*Auf:=Bbc W1;rw[Us,c,f,c,g[L]?=AW,_,SH];rw[Tk,j,hj,s,cw,cb,Bdn L f];let un:=aaH m (n+L+2) x g L c o O f;rw[Te,z1,h,V,d n L L p q (Fi (2^L)) (y.take (2^L)) Do Do Ac M hc Ac Ac Ac];rw[Te,l,l0,P,d n L L p q (BK (2^L)) (Beg (2^L)) Do Do Ac C0 hd Ac Ac Ac];let v:LP l<=2^(p+q):=Cb sK [GN,P.sV,Bvw]
    rw[Te,z3,D0,m3,d n L j (p+q) w l c Do hj Ac P.len s v cb Ac];rw[Te,z4,E0,F,d n L L p q (Fi (2^L)) (Beg (2^L)) Do Do Ac M hd Ac Ac Ac];rw[Te,z5,G0,m5,d n L L p q (BK (2^L)) (y.take (2^L)) Do Do Ac C0 hc Ac Ac Ac];let p1:=iY m (n+L+1) z1 z3 o (Fb V.len) (Fb Bdt);let p2:=iY m (n+L+1) z4 z5 o (Fb Bwe) (Fb m5.len);let l1:=dS Aad Bdt;let I:=dS Bwe m5.len;rw[sah]at l1 I;let n1:=dW W Aad Bdt;let n2:=dW W Bwe m5.len;rw[sah]at n1 n2;let lf:Asi [An,u9 z1 z3] (u9 z4 z5)=Aa:=aP [Aqb,l1,I];show[Cvz,u9 z1 z3++u9 z4 z5,BV K _ R H];·rw[FZ (n+(L+1)+3=(n+L+3)+1),iH,Ap];simp only[sbY,csAll,bR,e1,N,fh,sh,J,fy,sy,h,l0,un,D0,E0,G0,p1,p2,mD lf,c5]
    ·rw[su,l1,I,t5];omega
    ·rw[i8 W l1,nx,ny];let i1:=V.sV;let i2:LP z3<=LP (BK (2^L))*LP (Beg (2^L))*(Auf*Auf):=Bns m3.sV P.sV cw;let i4:=F.sV;let i5:=m5.sV;clear h l0 D0 E0 G0 p1 p2 V P m3 F m5 d Y Z v nx ny nb k;rw[TK,LP (Fi (2^L)),A];rw[TK,LP (BK (2^L)),B];rw[TK,LP (y.take (2^L)),C];rw[TK,LP (Beg (2^L)),D'];rw[TK,Auf,u];let i6:(LP z4+LP z5)*u<=(A*D'+B*C)*u:=EZ u Ac;let i7:=EZ u n2;rw[Tq,e,(A+B*u)*(C+D'*u)=A*C+B*D'*(u*u)+(A*D'+B*C)*u]
     omega
    ·rw[iZ R l1];let v1:=dU R Aad Bdt;let v2:=dU R Bwe m5.len;rw[sah]at v1 v2;rw[v1,v2,V.val K R H,m3.val K R H,P.val K R H,F.val K R H,m5.val K R H,<-H.sa6 L c j f s];change _=(GP L (Fi (2^L))+GP L (BK (2^L))*Cex L)*(GP L (y.take (2^L))+GP L (Beg (2^L))*Cex L);grind
theorem scm.swap(h:scm g W i x X y l z):scm g W X y i x l z:=[Am,h.len,by rw[zf];show h.sV,λK _ R H=>DR (h.val K R H)]
def jb(S:sa7 g W w)(m:Nat)(o:sd)(n i X p q:Nat)(x y:Ao)(G:i<=Abk)(H:X<=Abk)(O:AD=2^i)(Q:CK=2^X)(Y:C_ i x<=2^p)(Z:C_ X y<=2^q)(T:p+q+3*w<=tr):∃z,Cg (n+7) 29 [Fq,Ajh,uJ g]=Ou z/\scm g W i x X y (Ik i X) z:=by
 rw[Wu,N];rw[Tv,X<=i];·rw[Te,z,B,K,aaJ S m o 3 (n+1) _ _ p q x y Ac h G O Q Y Z [Cif,i*w<=3*w,EZ w Ac]];grind
 ·rw[Te,z,B,K,aaJ S m o 3 n _ _ q p y x Ac Ac H Q O Z Y [Cif,X*w<=3*w,EZ w Ac]];show Aho z (by rw[shH Ac];show K.swap);let e:Bkd AD CK=Aa:=Bx [Cif,2^i<2^X,sdJ Ac Ac];rw[iH,Ap];rw[Uh,sbY,bR,e,B,c5]
def gA(S:sa7 g W w)(m:Nat)(o:sd)(n l p:Nat)(x:Ao)(G:l<=Abk)(O:AD=2^l)(Y:KR<=2^p)(T:p+p+3*w<=tr):∃z,Fa 8 30 Fq (uJ g)=Ou z/\scm g W l x l x l z:=by rw[Te,z,B,K,jb S m o n l l p p x x G G O O Y Y T];rw[sah]at K;show Aho z K;rw[ah_,Ap];rw[VQ,sg9,B,c5]
def ajW(m n:Nat)(o:sd)(l a b:Nat)(x y:Ao)(O:AD=2^a)(Q:CK=2^b)(M:a<=l)(T:b<=l)(U:l<=3):Cg (n+2) 31 [Fq,Ajh,AT l]=Ou (Pc (2^l)++vO (2^l) y):=by
 let c:=dE U;let W:t_ 1 l=Aa:=by
  unfold t_;let:uE 1=0:=Ch
  rw[si];grind[tr]
 rw[Tq,N,(1)*2^Ahj l=Ay (2^l)]
 let J:Asi [An,Pc (2^l)] (vO (2^l) y)=Aa:=aP (by grind[c7]);rw[ah0,Ap];rw[Wn,vO,J];rw[Uy,sha,W,N,(iX m n x (2^l) o [Cid,zh] Ac),(iX m n y (2^l) o [Cid,zh] Ac),mD J,c5]
def sa9(z:Int):Bm:=Bo (z=0) 0 [Bsa,0<z,1,-1]
def ajX(z:Int):AX (sa9 z)<=1:=by
 unfold sa9;split;·decide
 ·split<;>decide
def ajY(m n:Nat)(z:Int)(o:sd):Cg (n+1) 21 [Aeq]=JL (sa9 z):=by
 rw[ahS,Ap,sa9];rw[Tv,z=0];·rw[VQ,sdp,Abb,NA]
 ·rw[Td,H,0<z];·rw[Uh,sdp,OL,Bx H,Nw,Av H]
  ·rw[Uh,sdp,OL,B_ H,Nw,AF H]
def ajZ{K:Bq}[Dw](z:Int):Sg (sa9 z) (CA z):=by
 unfold sa9;rw[Tv,z=0];·rw[h,aH];rw[TN,Ag]
 ·rw[Nw];rw[Td,H,0<z];·rw[Av H];show Aze (by let:=Hg Cul H;grind[aH])
  ·rw[AF H];rw[Uv,Bhg (by let:=Hg Czu Ac;grind[aH])]
def fk(S:sa7 g W w)(m:Nat)(o:sd):∀(l n p:Nat)(x:Ao),l<=Abk->AD=2^l->KR<=2^p->2^l*p+4*w<=tr->∃z:Int,Cg (n+l+10) 32 [Fq,uJ g]=JL z/\GD<=1/\Rv (xH R g->Sg z (Abp))
|0,n,p,x,G,O,Y,T=>by
 rw[Tc,a,t,ja O];let N:FU AD 1=Aa:=Bx Ag;rw[XC,i1,Bhx (Fq),Cmm,t]
 show⟨sa9 a,?_,ajX a,BV K _ R _⟩;·rw[rT,Ap];rw[Uh,saX,bR,N,i1,ajY]
 ·subst t;show ajZ a
|l+1,n,p,x,G,O,Y,T=>by
 rw[Wu,s3];let pw:=uz l;let pL:=dE (l:=l) Ac;rw[Tc,ha,d,QR];rw[UW,N,FU AD 1=Af];let f:=mE m (n+l+9) x (2^l) o Ac Ac;let sh:=mF m (n+l+9) x (2^l) o Ac Ac;let J:=S.one l;rw[Ti,nx,C_ (l+1) x=BZ (Fi (2^l))+BZ (BK (2^l))*HE];let nb:BZ (BK (2^l))<=BZ (BK (2^l))*HE:=Bbc J;rw[UX,I0,2^(l+1)*p,2^l*(2*p),t5,we]
 let G0:2^l*p<=2^l*(2*p):=Atj Ac;let H0:2*p<=2^l*(2*p):=sdK _ pw;rw[Tj,F,i,ra,va,fk S m o l n p (Fi (2^l)) Ac ha Ac Ac];rw[Tj,U,I,rb,vb,fk S m o l n p (BK (2^l)) Ac d Ac Ac];rw[Us,c,ec,c,g[l]?=AW,_,SH];rw[Tk,j,C,s,X,l0,Bdn l ec];let un:=aaH m (n+l+9) x g l c o O ec;rw[Te,z1,C0,V,gA S m o (n+l+2) l p (Fi (2^l)) Ac ha Ac Ac];rw[Te,z2,D0,m2,gA S m o (n+l+2) l p (BK (2^l)) Ac d Ac Ac];let v:BZ z2<=2^(p+p):=Cb sK [GN,m2.sV,Bvw]
 rw[Te,z3,E0,m3,jb S m o (n+l+3) l j (p+p) w z2 c Ac Ac m2.len s v l0 Ac];rw[sff C]at m3;let n3:BZ z3<=BZ (BK (2^l))*BZ (BK (2^l))*(HE*HE):=Bns m3.sV m2.sV X;let q3:BZ z3<=2^(p+p):=by show Bef n3;rw[Bpv (BZ (BK (2^l))*BZ (BK (2^l))*(HE*HE)=(BZ (BK (2^l))*HE)*(BZ (BK (2^l))*HE)),sK];show Bvw
 let mi:=mG m (n+l+7) z1 z3 o (Fb V.len) (Fb Bdt) (λy Q=>by let L:=dD Bvm Bdt y Q;show EI (cN (Li L q3)) Ac);let l3:AG Dcf=2^l:=by rw[sr];show m3.len
 let r:=dS Aad l3;let k:=dW W Aad l3;rw[sah]at r k;let en:BZ Dcf=BZ z3:=by rw[cj W Hj Bdt];simp
 let Z:BZ Coy<=2^(2*p):=by
  show Bef k;rw[en,FZ (2*p=p+p),sK];show EI (shI V.sV n3) (sba ?_ (He Y Y));rw[nx];rw[Wc,BZ (Fi (2^l)),A];rw[Wc,BZ (BK (2^l)),B];rw[Wc,HE,u];let:(A+B*u)*(A+B*u)=A*A+B*B*(u*u)+2*(A*(B*u)):=Aq
  omega
 rw[Tj,b,cn,rn,vn,fk S m o l n (2*p) Coy Ac r Z Ac];let vd:Rv (xH R g->FO Coy=FO (Fi (2^l))*FO (Fi (2^l))-(FO (BK (2^l))*Afk)*(FO (BK (2^l))*Afk)):=λK _ R H=>by let e:=dU R Aad l3;rw[TV,sah];rw[e,ci R Hj Bdt,V.val K R H,m3.val K R H,m2.val K R H,<-H.sa6 l c j ec s,aq,ah];grind
 show⟨Bo (U=0) F [Bo,F=0\/F=U,U,F*b],?_,?_,BV K _ R H⟩
 ·let mf:tj F b=Aa:=c6 (p:=0) (q:=0) (by simpa using ra) (by simpa using rn) Ac;rw[FZ (n+(l+1)+10=(n+l+10)+1),rT,Ap];rw[Td,c1,U=0];·simp only[saX,csAll,bR,N,f,sh,i,I,Bx c1,Av c1]
  ·rw[Td,P,F=U];·simp only[saX,csAll,bR,N,f,sh,i,I,B_ c1,Bx P,AF c1,Av (Or.inr P:F=0\/F=U)];rw[P]
   ·rw[Td,M,F=0];·simp only[saX,csAll,bR,N,f,sh,i,I,B_ c1,B_ P,Bx M,AF c1,Av (Or.inl M:F=0\/F=U)]
    ·rw[Tx,q,¬(F=0\/F=U),h,h.elim M P];simp only[saX,csAll,bR,N,f,sh,i,I,B_ c1,B_ P,B_ M,AF c1,AF q,D0,un,E0,C0,mi,cn,mf]
 ·split;·show ra
  ·split;·show rb
   ·rw[yu];show He ra rn
 ·show aaf (va K R H) ((vb K R H).scale (H.pos l Ac)) [Bfy,vd K R H,vn K R H]
def sjB(m:Nat):Al:=Eu (k<=tr->2^k+1<m)
def aj_(w:1<=r):n<((r+n/r)/2+1)*((r+n/r)/2+1):=by
 let G:n<(n/r+1)*r:=by let:=Nat.div_add_mod n r;let z:=sdH n [Ij,0<r];grind
 generalize n/r=q at G|-;rw[Uc,z,r+q+1<=2*((r+q)/2+1)]
 let F:=He z z;let H:4*((q+1)*r)<=(r+q+1)*(r+q+1):=by
  let e:(r+q+1)*(r+q+1)=(r+(q+1))*(r+(q+1)):=Ch
  rw[e];rw[Wc,q+1,p];rw[WS,Nat.le_total r p];·rw[VR,d,sjC h];grind
  ·rw[VR,d,sjC h];grind
 grind
def aj0(a b:Nat):([Au,a].fdiv Cj)=Ay (a/b):=Aq
def aaK(m n:Nat)(v:Nat)(o:sd)(K:Afe)(O:Lr+2<=tr):∃r:Nat,Cg (n+1) 17 [Abn]=BN RA/\r*r<=v/\v<(r+1)*(r+1):=by
 rw[Td,H,v=0];·show⟨0,?_,AE,AE⟩;let e:FU v 0=Aa:=Db;rw[rR,Ap];simp-implicitDefEqProofs only[seT,csAll,e];rfl
 ·rw[UW,e,FU v 0=Af];let b:xE Axp=Lr+1:=by rw[We,xE]
  rw[Tq,C,Buz (Cmy Axp+1)=Ay ((Lr+2)/2)]
  let N:t_ 1 [Ay,(Lr+2)/2]=Aa:=by
   unfold t_;let:uE 1=0:=Ch
   rw[si];grind
  rw[Tq,J,Apb*2^DQ [Ay,(Lr+2)/2]=Ay (2^((Lr+2)/2))]
  rw[Ti,I,Sf Rq=Aa];rw[TW,y,RG r (1<=r->Buz (Aii+((Axp).fdiv Aii))=Ay ((r+v/r)/2)),r,_,Aq]
  rw[TW,u,RG r (1<=r->Sf Aii=Aa),r,h,Db];let Z:=uz ((Lr+2)/2);let g:v<(2^((Lr+2)/2)+1)*(2^((Lr+2)/2)+1):=by
   let G:v<2^(Lr+1):=sjD;rw[Wg,z,2^(Lr+1),2^((Lr+2)/2)*2^((Lr+2)/2),sK,OF]
   let F:2^((Lr+2)/2)*2^((Lr+2)/2)<=(2^((Lr+2)/2)+1)*(2^((Lr+2)/2)+1):=Bvw;omega
  rw[TW,B,RG r (1<=r->1<=(r+v/r)/2),r,w,by
   rw[Va,r=1];·subst G;omega
   ·rw[Wc,v/r,q];omega]
  let W:=fg (cl:=LX) (m:=m) (c:=.cmp .lt Bj AL) (b:=Jo (F_ 1 Df) [FA,F_ 2 [Als,(So AL [Bbs,Bvk,Bf]),Mq]]) (λA V=>V=o/\∃r:Nat,1<=r/\v<(r+1)*(r+1)/\A=[Cd v,Cd r,RI ((r+v/r)/2)]) (λA _=>match A with|[_,some (.int i),_]=>i.toNat|_=>0) (λd=>∃r:Nat,d=Arq [Cd v,Cd r,RI ((r+v/r)/2)]/\r*r<=v/\v<(r+1)*(r+1)) (by
   rintro A V⟨rfl,r,w,a,rfl⟩;rw[Td,U,(r+v/r)/2<r]
   ·show [Kq,by rw[YR];rw[Db],AK ⟨_,_,?_,⟨Ab,(r+v/r)/2,?_,aj_ w,Ab⟩,?_⟩];·let c:=B r w;simp-implicitDefEqProofs only[csAll,u _ c,I,y _ c]
    ·show B r w
    ·show U
   ·rw[TB,Ath (by rw[YR];rw[MT]) r Ab a];rw[Uc,G,r<=v/r]
    show(Dbr Ac).mp G) [Cd v,RI (2^((Lr+2)/2)),RI ((2^((Lr+2)/2)+v/2^((Lr+2)/2))/2)] o [DL,Ab,_,Z,g,Ab] (by rw[Vm,sP];let:=K ((Lr+2)/2) Ac;omega);obtain⟨r,w,G,z⟩:=W;show⟨r,?_,G,z⟩;rw[rR,Ap];simp-implicitDefEqProofs only[seT,csAll,e,C,N,J,I,u _ Z,y _ Z,w]
def pD(p:Bm×Bm):D:=tI [Ax,BE]
def fm:Bhx (pD p)=JL Ax:=rfl
def gB:Ajn (pD p) Afa=JL BE:=rfl
def mM:Bfp (pD p)=Cnc p:=iQ
def aj1:GL (pD p)=Aa:=rfl
def fq:Bgv [Agq,Alf]=pD (a,b):=rfl
def vw(x r:Bm×Bm)(b:Nat):Bm×Bm:=((Ee*Cv (0<=Ee) r.1 r.2)/2^b,-((-(Gr*Cv (0<=Gr) r.2 r.1))/2^b))
def aj2(m n:Nat)(x r:Bm×Bm)(b:Nat)(o:sd)(p q:Nat)(l:AX Ee<=2^p)(Y:AX Gr<=2^p)(h:AX r.1<=2^q)(c:AX r.2<=2^q)(T:p+q<=tr):Cg (n+1) 18 [pD x,pD r,En]=Cnc (vw x r b):=by let G:tj _ [Cv,0<=Ee,r.1,r.2]=Aa:=c6 l Ag T;let y:tj _ [Cv,0<=Gr,r.2,r.1]=Aa:=c6 Y Ag T;let N:Bn 0 Cj=Aa:=Db;rw[ahQ,Ap];rw[Td,c1,0<=Ee]<;>rw[Td,P,0<=Gr]<;>simp[c1,P,tF,tO]at G y<;>simp only[sg0,csAll,fm,gB,c1,P,G,y,N,sP,fq,mM,vw]
def xJ(e:Ann)(b:Nat):Aw->Ao->Bm×Bm|0,x=>(Bch 0*2^b,Bch 0*2^b)|l+1,x=>let a:=Nd e l (Fi (2^l));let c:=vw (Nd e l (BK (2^l))) (Bwx l 0) b;(a.1+c.1,a.2+c.2)
structure wz(en:Ann)(W:Ak)(b:Nat):Al where
 at_:Eu (k<Acq->0<=(Bqv (0,0)).1/\(Bqv (0,0)).1<=(Bqv (0,0)).2/\(Bqv (0,0)).2<=Lo*2^b)
def aaL{z:Int}(h:GD<=M*2^b):AX (z/2^b)<=M:=by
 let Y:Ia<2^b:=Awy;rw[Tq,G,z<=M*2^b]
 rw[Tq,H,-(M*2^b)<=z]
 let X:z/2^b<=M:=by let:=Dea G;grind[Int.mul_ediv_cancel]
 let A:-M<=z/2^b:=by let:=Dea H;rw[VW,Cin (-(M*2^b)=(-Au M)*2^b),Int.mul_ediv_cancel _ Ac];grind
 omega
def aj3{w:Nat}(l:AX Ee<=M*2^b)(Y:AX Gr<=M*2^b)(e:0<=r.1)(h:r.1<=r.2)(c:r.2<=Au w*2^b):AX (vw x r b).1<=M*w*2^b/\AX (vw x r b).2<=M*w*2^b:=by
 let d:∀z,0<=z->z<=r.2->GD<=w*2^b:=λz G H=>Aq
 let C:∀(a z:Int),Aau<=M*2^b->0<=z->z<=r.2->AX (a*z)<=M*w*2^b*2^b:=λa z G H F=>by rw[yu];let:=He G (d z H F);grind
 unfold vw;rw[TH];·show aaL ?_;split;all_goals grind
 ·rw[Int.natAbs_neg];show aaL ?_;rw[Int.natAbs_neg];split;all_goals grind
def ft(H:wz e W b)(J:Bhv 1):Akt (l<=AG e->AD=2^l->AX (Si e).1<=KR*2^b/\AX (Si e).2<=KR*2^b)|0,x,_,O=>by simp_all[xJ,sV,yu]|l+1,x,U,O=>by rw[Vi,QR];rw[Tc,X,A,ft H J Ac G];rw[Tc,c1,P,ft H J Ac z];rw[Te,Z,g,R,Cdz];rw[Tc,V,Q,aj3 c1 P Z g R];unfold xJ sV;grind
def gC(m:Nat)(H:wz K W b)(J:Bhv 1)(o:sd)(L:D)(i:tP o L=As (K.map pD))(z:Nat)(B:Bhu (2^z)):∀(l n:Nat)(x:Ao)(p:Nat),l<=AG K->l<=3->AD=2^l->KR<=2^p->p+z+2*b<=tr->Cg (n+l+2) 19 [Fq,L,En]=Cnc (Si K)
|0,n,x,p,_,_,O,Y,T=>by
 rw[Tc,a,t,ja O];let N:FU AD 1=Aa:=Bx Ag;rw[XC,V,Bhx (Fq),Cmm,t]
 let v:t_ a Cj=Aa:=by unfold t_ uE;rw[si];let:Bpg a<=p:=cN (by subst t;simpa[sV]using Y);grind
 rw[rS,Ap];rw[Vj,seU,bR,N,V,v,sP,fq,mM];subst t;rfl
|l+1,n,x,p,U,r,O,Y,T=>by
 let c:=uz l;rw[Tc,G,Q,QR];rw[UW,N,FU AD 1=Af];rw[Ti,I,Sf Rq=Aa];let f:Buz [Ay,AD]=Ay (2^l):=by rw[O,t5,zf];show aaF _
 rw[Ti,h,C_ (l+1) x=BZ (Fi (2^l))+BZ (BK (2^l))*HE];let A:BZ (BK (2^l))<=BZ (BK (2^l))*HE:=Bbc (J l);let c1:=gC m H J o L i z B l n (Fi (2^l)) p Ac Ac G Ac T;let P:=gC m H J o L i z B l n (BK (2^l)) p Ac Ac Q Ac T;let M:ux o (Fq) GO (Axx (2^l))=Ou (Fi (2^l)):=by
  change ux o (HJ Boh) (Axx 0) _=_;rw[eM (by rw[sr,O];show uz _)];let:(!(Cn 0==0&&Bn Avp (2^l)))=Aa:=Cmk sr O MT
  rw[this,gx];unfold t3 tI;rw[sfe,sa8]
 let w:sfb o (Fq) (Axx (2^l))=Ou (BK (2^l)):=by
  change ux o (HJ Boh) (Axx (2^l)) (Axx Avp)=_;rw[eM (by rw[sr,O];show uz _)];let:(!(2^l==0&&Bn Avp Avp))=Aa:=by
   let:(2^l==0)=Af:=AY
   rw[this];rfl
  rw[this,gx];unfold t3 tI;rw[yt,sch]
 let d:Cmy [Ay,2^l]-1=Au l:=Fb aaG
 let C:Ajn L (AT l)=Cnc (K.getD l (0,0)):=by rw[aau i,mx,tD,Dz [Ij,l<AG K]];rw[w_,Dz [Ij,l<AG K]];rfl
 rw[Tc,X,a2,ft H J (l:=l) Ac Q];rw[Te,Z,g,u,Cdz];let q1:BZ (BK (2^l))*2^b<=2^(p+b):=Cb sK [EZ,_,Ac]
 let R:∀y:Bm,0<=y->y<=HE*2^b->AX y<=2^(z+b):=λy q j=>by
  let e:Ay (2^b)=2^b:=AY
  let F:HE*2^b<=2^(z+b):=Cb sK [EZ,_,(B l)]
  let h4:Au [AX,y]<=Gq HE (2^b):=by rw[tT,e];omega
  omega
 let s:=aj2 m (n+l+1) (Nd K l (BK (2^l))) (K.getD l (0,0)) b o (p+b) (z+b) Ac Ac (R _ Z Ac) (R _ Ac u) Ac;rw[FZ (n+(l+1)+2=(n+l+2)+1),rS,Ap];simp only[seU,csAll,bR,N,I,f,M,w,c1,P,d,C,s,fm,gB,fq,mM];rfl
section
variable{K:Type}[OK K]
def KP(b:Nat):K:=Csu (2^b)
def aaM(b:Nat):EY<Gn:=by let:=uz b;let h:=Hg [Cpr,(Cn (2^b))] Ac;rw[Tg,aH];show h
def cO(b:Nat):CA (2^b)=Gn:=Ch
def gE(a b:Nat):QD (a+b)=KP a*Gn:=Cml KP sK tT ak
def aj4:QD 0=1:=by grind[KP,ah]
def aaN:QD 1=2:=by grind[KP,eX]
def aaO(h:a<=b):QD a<=Gn:=by unfold KP;rw[aL];let:=zh [Ij,0<2] h;omega
def aaP(z:Int)(b:Nat):CA (z/2^b)*Gn<=sk z/\CA z<(sk (z/2^b)+1)*Gn:=by
 let Y:Ia<2^b:=Awy;let G:z/2^b*2^b<=z:=by let:=shJ z (Of [CV,(2)^b]);let:=sfg z (2^b);grind
 let H:z<(z/2^b+1)*2^b:=by let:=sdL z Y;rw[YV]
 rw[TH];·let:=Dga G;grind[ak,cO]
 ·let:=Hg Cul H;grind[ak,cO,az,ah]
def aj5{d:K}(G:a<=b)(z:c<=d)(T:0<=b)(L:0<=c):a*c<=b*d:=by let:=ae L G;let F:=ae T z;grind
def cP(h:0<=z):EY<=sk z:=by let:=Dga h;grind[aH]
def aaQ(h:¬0<=z):sk z<EY:=by let:=Hg Czu Ac;grind[aH]
def aaR{r:K}(G:sk Ee<=v)(z:v<=sk Gr)(F:sk d.1<=r)(h:r<=sk d.2)(H:0<=d.1):sk (vw x d b).1*Gn<=v*r/\v*r<=sk (vw x d b).2*Gn:=by
 let Z:EY<=sk _:=cP H;let f:=Bcd _ _ Z F;unfold vw;rw[TH]
 ·show Cii _ _ (aaP _ b).1;rw[ak];split;·grind[cP,aj5]
  ·rw[TF,c];let O:=aaQ (K:=K) c;let X:=ae f G;let A:=ae (c:=-sk Ee) Ag h;grind
 ·rw[aq];let s:=(aaP (K:=K) (-(Gr*Cv (0<=Gr) d.2 d.1)) b).1;rw[aq _,ak]at s;let C:v*r<=sk Gr*sk [Cv,0<=Gr,d.2,d.1]:=by
   split;·rw[TF,c];let O:EY<=sk _:=cP c;let X:=ae f z;let A:=ae O h;grind
   ·rw[TF,c];let O:=aaQ (K:=K) c;let X:=ae f z;let A:=ae (c:=-sk Gr) Ag F;grind
  grind
def scn(R:Ct)(e:Ann)(b:Nat):Al:=Eu (k<AG e->sk (Akg).1<=Qq*Gn/\Qq*Gn<=sk (Akg).2)
def gF{R:Ct}(H:wz e W b)(h:scn R e b):Akt (l<=AG e->AD=2^l->sk (Si e).1<=Abp*Gn/\Abp*Gn<=sk (Si e).2)
|0,x,_,_=>by grind[xJ,vI,ak,cO]
|l+1,x,U,O=>by
 rw[Vi,QR];rw[Tc,X,a,gF H h Ac G];rw[Tc,c1,P,gF H h Ac z];rw[Tc,A,N,h l Ac];rw[Tc,V,Q,aaR (b:=b) c1 P A N (Cdz).1];let Y:=MX b;rw[xJ,vI,az,az];let q:sk (vw (Nd e l (BK (2^l))) (Bwx l 0) b).1<=FO (BK (2^l))*Afk*Gn:=by rw[<-bo Y];grind
 let B:FO (BK (2^l))*Afk*Gn<=sk (vw (Nd e l (BK (2^l))) (Bwx l 0) b).2:=by rw[<-bo Y];grind
 grind
end
def aj6(h:V-B<=d*2^b):-((-V)/2^b)-B/2^b<=d+1:=by
 let Y:Ia<2^b:=Awy;let X:B<(B/2^b+1)*2^b:=by let:=sdL B Y;rw[YV]
 let A:-V<(-V/2^b+1)*2^b:=by let:=sdL (-V) Y;let:=sfg (-V) (2^b);grind
 generalize-V/2^b=u at A|-;generalize B/2^b=v at X|-;let:(-u-v-2)*2^b<d*2^b:=Aq
 let:=sjE this Ac;omega
def aj7{r:Bm×Bm}{M e w:Nat}(l:AX Ee<=M*2^b)(I:AX Gr<=M*2^b)(O:Ee<=Gr)(Y:Gr-Ee<=i)(H:0<=r.1)(G:r.1<=r.2)(F:r.2<=Au w*2^b)(o:r.2-r.1<=e):(vw x r b).2-(vw x r b).1<=M*e+i*w+1:=by
 rw[Uc,f,0<=i]
 rw[Tq,A,Au [AX,Ee]<=M*2^b]
 rw[Tq,g,(AX Gr)<=M*2^b]
 rw[Uc,Z,Ia<=M*2^b]
 let m:∀y:Bm,0<=y->y<=M*2^b->y*(r.2-r.1)<=M*2^b*e:=λy q j=>shK j o Ac Z;let B:∀y z,0<=y->y<=i->0<=z->z<=r.2->y*z<=i*(w*2^b):=λy z q j s C=>shK j Ac s f;rw[TW,t,∀d,d<=M*2^b*e+i*(w*2^b)->d<=(M*e+i*w)*2^b,d,h,Aq]
 let C:Ia<=M*2^b*e:=sbb Z Ac;unfold vw;show aj6 (t _ ?_);rw[Td,c1,0<=Ee]
 ·let P:=AE
  let c:=B _ _ Ac Y H G;grind
 ·rw[AF c1];rw[Td,P,0<=Gr]
  ·rw[Av P];let c:=B (Gr-Ee) r.2 Ac Y Ac Ac;let:Gr*r.2-Ee*r.2=(Gr-Ee)*r.2:=Aq
   omega
  ·rw[AF P];let a:=m (-Ee) Ac Ac;let c:=B (Gr-Ee) r.1 Ac Y H G;let:Gr*r.1-Ee*r.2=(-Ee)*(r.2-r.1)+(Gr-Ee)*r.1:=Aq
   omega
def aj8(O:Ee<=Gr)(H:0<=r.1)(G:r.1<=r.2):(vw x r b).1<=(vw x r b).2:=by let h:=aaR (K:=Rat) (b:=b) (Cil) (aL.mpr O) (Cil) (aL.mpr G) H;let:=Bcd _ _ Bk Ck;grind[bo,aaM,aL]
def fu(H:wz e W b):Akt (l<=AG e->AD=2^l->(Si e).1<=(Si e).2)|0,x,_,_=>CO xJ|l+1,x,U,O=>by rw[Vi,QR];let a:=fu H Ac G;rw[Te,Z,g,P,Cdz];let p:=aj8 (b:=b) (fu H Ac z) Z g;grind[xJ]
def jc{δ:Nat}(H:wz en W b)(J:Bhv 1)(n:Bhu M)(m:2<=M)(o:Eu (k<Acq->(Bqv (0,0)).2-(Bqv (0,0)).1<=δ))(B:1<=δ):Akt (l<=Acq->AD=2^l->KR<=M->(Si en).2-(Si en).1<=Gq ((4*M)^l) δ)
|0,x,_,_,_=>by grind[xJ]
|l+1,x,U,O,f=>by
 rw[Vi,QR];rw[Ti,h,C_ (l+1) x=BZ _+BZ _*HE];let A:BZ _<=BZ (BK (2^l))*HE:=Bbc (J l);let a:=jc H J n m o B Ac G Ac;let c:=jc H J n m o B Ac z Ac;rw[Te,Z,g,P,Cdz];rw[Tc,r,v,ft H J Ac z];let p:=aj7 r v (fu H Ac z) c Z g P (o l Ac);unfold xJ;rw[TD];generalize Q:(4*M)^l*δ=y at a c p;rw[Wg,j,δ,y,Q,sdK _ (Nat.pow_pos Ac)]
 let t:BZ (BK (2^l))*δ<=M*y:=Amr j;let d:y*HE<=y*M:=Atj (n l);rw[Tq,e,(4*M)^(l+1)*δ=4*(M*y)]
 let N:y*M=M*y:=zf _ _;let i:=EZ y m;rw[e];rw[N]at d;omega
section
variable{K:Type}[OK K]{sq:List (List Int)}{W:List Nat}{w:Nat}{R:List K}
def mN(h:Eu (k<Ho->0<=Qq/\Qq<=Aob Lo)):Akt (l<=Ho->AD=2^l->Abp<=Aob KR/\-Aob KR<=Abp)|0,x,_,_=>by unfold vI sV;rw[<-aq,aL,aL];omega|l+1,x,U,O=>by rw[Vi,QR];rw[Tc,X,A,Cij h G];rw[Tc,r,v,Cij h z];rw[Tc,Z,g,h l Ac];let i:EY<=Aob [BZ,(BK (2^l))]:=cP Ac;let c1:=ae Z r;let P:=ae Z v;let M:=ae i g;unfold vI sV;rw[xG,tT,az,ak];rw[TH]<;>grind
def aj9(S:Aca w)(H:RY):∀n k,k<n->k<Ho->0<=Qq/\Qq<=Aob Lo:=by
 intro n;induction n with
 |zero=>intro k h;omega
 |succ n d=>
  intro k Z o;let p:=H.pos k o;rw[Uf,am p];rw[Us,c,f,c,Awx=AW,_,Dz o];rw[Tk,j,C,s,X,I,Bdn k f];let e:=H.sa6 k c j f s;let O:GP j c<=Aob [C_,j,c]:=by
   let B:Akt (l<=k->AD=2^l->Abp<=Aob KR/\-Aob KR<=Abp):=by intro l x U A;let:=mN (sq:=sq.take k) (R:=R) (W:=W) (Jl V (d i [Chu,ug,V] [Chu,ug,V])) (l:=l) (x:=x) (Fb ug) A;rw[TQ]
   show(B C s).1
  show cg (cP Ac) ?_;rw[e];show Cii _ _ O;rw[<-ak,aL];let:=X;rw[<-tT];omega
theorem xH.le(H:RY)(S:Aca w):Eu (k<Ho->0<=Qq/\Qq<=Aob Lo):=λk Z=>aj9 S H _ k Ac Z
end
def aka(S:sa7 g W w)(U:l+1<=Abk)(O:AD=2^(l+1))(Y:C_ (l+1) x<=2^p)(T:2*p+4*w<=tr):∃d:Ao,AG d=2^l/\BZ d<=2^(2*p)/\Rv (xH R g->FO d=FO (Fi (2^l))*FO (Fi (2^l))-(FO (BK (2^l))*Afk)*(FO (BK (2^l))*Afk)):=by
 rw[Wu,N];rw[Tc,M,G,QR];let J:=S.one l;rw[Ti,h,C_ (l+1) x=BZ (Fi (2^l))+BZ (BK (2^l))*HE];let I:BZ (BK (2^l))<=BZ (BK (2^l))*HE:=Bbc J;rw[Us,c,f,c,g[l]?=AW,_,SH];rw[Tk,j,C,s,X,a,Bdn l f];rw[Te,z,_,V,gA S 0 [] 0 l p (Fi (2^l)) Ac M Ac Ac];rw[Te,Z,_,P,gA S 0 [] 0 l p (BK (2^l)) Ac G Ac Ac];let v:BZ Z<=2^(p+p):=Cb sK [GN,P.sV,Bvw]
 rw[Te,y,_,m,jb S 0 [] 0 l j (p+p) w Z c Ac Ac P.len s v a Ac];rw[sff C]at m;let n:BZ y<=BZ (BK (2^l))*BZ (BK (2^l))*(HE*HE):=Bns m.sV P.sV X;let i:AG Cfs=2^l:=by rw[sr];show m.len
 let r:=dS Aad i;let k:=dW W Aad i;rw[sah]at r k;let F:BZ Cfs=BZ y:=by rw[cj W Hj m.len];simp
 show⟨u9 z Cfs,r,?_,BV K _ R H⟩
 ·show Bef k;rw[F,FZ (2*p=p+p),sK];show EI (shI V.sV n) (sba ?_ (He Y Y));rw[h];rw[Wc,BZ (Fi (2^l)),A];rw[Wc,BZ (BK (2^l)),B];rw[Wc,HE,u];let:(A+B*u)*(A+B*u)=A*A+B*B*(u*u)+2*(A*(B*u)):=Aq
  omega
 ·let e:=dU R Aad i;rw[TV,sah];rw[e,ci R Hj m.len,V.val K R H,m.val K R H,P.val K R H,<-H.sa6 l c j f s,aq,ah];grind
section
variable{K:Type}[OK K]{sq:List (List Int)}{W:List Nat}{w:Nat}{R:List K}
def yw(a:K)(e:Nat):Al:=a=0\/1<=a*KP e\/1<=-a*KP e
theorem yw.mono{a:K}(h:yw a e)(Y:e<=e'):yw a e':=by
 let k:=aaO (K:=K) Y;let x:=MX e;rw[YD];·rw[TB,h]
 ·rw[Uv,Are];let M:0<=a:=by
   rw[Wr,Bje a];·grind
   ·let:=ue (-a) _ Ag (am x);grind
  let:=ae M k;grind
 ·rw[Uv,Cba];let M:0<=-a:=by
   rcases Bje (-a)with q|q;·grind
   ·let:=ue a _ Ag (am x);grind
  let:=ae M k;grind
def yw.akb{v:K}(h:yw (u*v) e)(H:CV (u*v))(G:v<=KP z)(A:-KP z<=v):yw u (z+e):=by
 let J:=Bay;let x:=MX e;let k:=MX z;rw[UF,u0,u,0,q,H (DR q)];let C:∀a b:K,0<a->b<=KP z->1<=a*b*KP e->1<=a*KP (z+e):=λa b M T h=>by rw[gE];let:=ae (c:=a*KP e) (ue _ _ (am M) (am x)) T;grind
 rcases gn (a:=u)with q|q|q
 ·rw[Uv,Are];rw[YD];·rw[T',h,H]
  ·show C u v q G h
  ·show C u (-v) q Ag Ag
 ·rw[T',q,u0]
 ·rw[Uv,Cba];rw[YD];·rw[T',h,H]
  ·show C (-u) (-v) Ag Ag Ag
  ·show C (-u) v Ag G Ag
def jd(S:Aca w)(H:RY):∀(l p:Nat)(x:Ao),l<=Ho->AD=2^l->KR<=2^p->2^l*p+4*w<=tr->yw (Abp) ((2^l-1)*p)
|0,p,x,_,O,_,_=>by
 rw[Uc,e,(2^0-1)*p=0]
 rw[e];unfold yw vI;rw[aj4];let J:=Bay;rw[Xv,shL (Bch 0) 0];·rw[Uv,Cba];let:=Cpx 1 (-(Bch 0)) Ac;rw[VW,ah,aq];grind
 ·rw[TB,Ni h aH]
 ·rw[Uv,Are];let:=Cpx 1 [Bch,0] Ac;rw[Tt,ah];grind
|l+1,p,x,U,O,Y,T=>by
 rw[Tc,M,F,QR];let z:=S.one l;rw[Ti,n,C_ (l+1) x=BZ (Fi (2^l))+BZ (BK (2^l))*HE];let c:=uz l;rw[UX,m,2^(l+1)*p,2^l*(2*p),t5,we]
 let l0:2^l*p<=2^l*(2*p):=Atj Ac;let C0:2*p<=2^l*(2*p):=sdK _ c;rw[Tj,d,V,k,B,aka S U O Y Ac];let G:=jd S H l (2*p) d Ac V k Ac;let y:=jd S H l p (Fi (2^l)) Ac M Ac Ac;rw[T_,B K R H];let o:=H.le S;rw[Tc,X,a2,Cij o M];rw[Tc,r,v,Cij o F];rw[Tc,Z,u,o l Ac];change yw (FO (Fi (2^l))+FO (BK (2^l))*Afk) _;let j:∀s:K,(s=1\/s=-1)->FO (Fi (2^l))+s*(FO (BK (2^l))*Afk)<=KP p/\-KP p<=FO (Fi (2^l))+s*(FO (BK (2^l))*Afk):=by
  let Q:CA [Cn,C_ (l+1) x]<=KP p:=by unfold KP;rw[aL];omega
  rw[n,xG,tT,az,ak]at Q;let i:EY<=Aob [BZ,(BK (2^l))]:=cP Ac;let c1:=ae Z r;let P:=ae Z v;let c3:=ae i u;rintro s(rfl|rfl)<;>rw[TH]<;>grind
 rw[TK,FO (Fi (2^l)),a];rw[TK,FO (BK (2^l))*Afk,b];let L:(2^(l+1)-1)*p=p+(2^l-1)*(2*p):=by
  rw[t5];rw[Us,t,I,t,2^l=t+1,2^l-1,AE];rw[I];let:(t+1)*2-1=2*t+1:=AE
  rw[this,shF];grind
 rw[Td,C,a+b=0];·rw[TB,C]
 ·rw[Td,f,a*a-b*b=0]
  ·let A:a=b:=by
    let:(a+b)*(a-b)=0:=Aq
    rw[Td,q,a-b=0];·grind
    ·rw[T',this,(bV C q)]
   let N:a+b=a+a:=by rw[<-A]
   let g:=y.mono (e':=(2^(l+1)-1)*p) [Eb,L,EI [Atj,Ij (p<=2*p)] Ac];rw[N];let kp:=MX ((2^(l+1)-1)*p);let J:=Bay;rcases g with g|g|g;·rw[TB,(DR g)]
   ·rw[Uv,AK Ag]
   ·rw[VX,Ag]
  ·rw[L];rw[Tq,A,(a+b)*(a-b)=a*a-b*b]
   show yw.akb (v:=a-b) (by rw[A];show G) (by rw[A];show f) ?_ ?_;·let:=(j Hj Aot).1;grind
   ·let:=(j Hj Aot).2;grind
end
def mO(h:2^a=2^b):a=b:=by
 rcases shM a b with q|q|q;·let:=sdJ [Ij,1<2] q;omega
 ·show q
 ·let:=sdJ [Ij,1<2] q;omega
def je{J:Bq}{l Y:LJ}{d:J}(h:k<Ah):Aac (l++Y) k d=l.getD k d:=Aiz w_ w_ (xK h)
def mP{J:Bq}{l:LJ}{x d:J}:Aac (l++[x]) Ah d=x:=Aq
def jf:Akt (l<=Acq->Si (en++en')=Si en)|0,_,_=>rfl|l+1,x,h=>Cml xJ Den Den (je Ac)
def sdM(e:Ann)(g:JP)(b:Nat):Al:=Cpv (k<AG e->g[k]?=AW->Aey=2^j->(Akg).1*(Akg).1<=Aux (Nd e j c).1*2^b/\Aux (Nd e j c).1*2^b<((Akg).1+1)*((Akg).1+1)/\((Akg).2-1)*((Akg).2-1)<=(Nd e j c).2*2^b/\(Nd e j c).2*2^b<(Akg).2*(Akg).2/\0<=(Akg).1/\1<=(Akg).2)
def aaS{b:Int}(M:0<=a)(h:b*b<=a*a):b<=a:=by
 rw[Td,q,b<=a];·grind
 ·let:(a+1)*(a+1)<=b*b:=shK Ac Ac Ac Ac;grind
def aU(b:Nat):Ay (2^b)=2^b:=AY
def ck(h:Aau<=2^p)(T:p+b<=tr):t_ a Cj=Aa:=by unfold t_ uE;let:=cN h;rw[si];rw[Th,Db,Db]
section
variable{K:Type}[OK K]{sq:List (List Int)}{W:List Nat}{w:Nat}{R:List K}
def akc(m n b z:Nat)(hm:Afe)(S:Aca w)(H:RY)(o:sd)(B:Bhu (2^z))(hb:w+z+2*b+10<=tr):∃en:Ann,Fa 7 20 All En=Mn Apw/\Acq=Ho/\wz en W b/\scn R en b/\sdM en sq b:=by
 rw[Wu,s3];let Y:=aU b;let p0:Ia<2^b:=Awy;let V0:Cf<HA o [uR.lst []]:=AY
 let F:=iU (cl:=Bb (n+6)) (m:=m) (i:=3) (it:=Aim) (b:=Btz 4 [FW,19,BJ,LV Bj AL] [Fz,5,HR 17 (Btf (Ces Bcu Fg)),6,ED [HR,17,(Btf (Bda))] Fe,FA [Rg,2,Gc JC JE]]) (s:=Et All) (items:=Axe Dfp d d) (λk A E0=>∃(en:Ann)(O o4 o5 o6:LI),A=[Bna,Cd b,El,O,o4,o5,o6]/\E0=o++[Dq Apw]/\Acq=k/\wz en W b/\scn R en b/\sdM en sq b) (ρ:=[Bna,Cd b,El,Ad,Ad,Ad,Ad]) (st:=o++[Aaf]) (by rw[Wx];rfl) [Bqp,sN.size,uJ,tP] (by rintro k A E0⟨en,O,o4,o5,o6,rfl,rfl,_⟩;show Bva (Bix Dfp)) (by
  rintro k x y A E0 Z⟨en,O,o4,o5,o6,rfl,rfl,r,EO,a,ER⟩;rw[sO,tD]at Z;cases f:Awx with
  |none=>rw[f]at Z;cases Z
  |some c=>
   rw[f]at Z;cases Z;let Q0:k<Ho:=(Dj f).1;rw[Tk,j,C,s,cw,I,Bdn k f];let sfd:=S.sfd k c j f s;let O0:tP (Aue) (Adq)=As Apw:=by simp[tP,uS]
   let c1:=gC m EO Bvm (Aue) (Adq) O0 z B j (n+4-j) c w Ac Ac s I Ac;rw[FZ (n+4-j+j+2=n+6)]at c1;rw[Tc,X,a2,ft EO Bvm (l:=j) Ac s];rw[Tc,v1,v2,gF EO a (l:=j) Ac s];generalize hu:Nd en j c=u at c1 X a2 v1 v2;let q1:C_ j c*2^b<=2^(w+b):=Cb sK [EZ,_,I]
   let Q:=H.pos k Q0;let J:=H.sa6 k c j f s;let kb:=MX b;let u2:0<u.2:=by
    let G:EY<GP j c*Gn:=af [Bfy,J,af Q Q] kb;let h2:=sad G v2;let h3:CA 0<sk u.2:=by rw[aH];show h2
    show bP.mp h3
   let m0:(Iz (Ia>u.1) 0 u.1)=Blm:=by split<;>omega
   rw[Uc,D0,0<=Blm]
   let f1:t_ (Blm) Cj=Aa:=ck (p:=w+b) Ac Ac;let f2:t_ u.2 Cj=Aa:=ck (p:=w+b) Ac Ac;let sz:∀t:Bm,0<=t->AX t<=2^(w+b)->(DQ (t*2^b)).log2+2<=tr:=λt t0 M=>by
    let G:DQ (t*2^b)=AX t*2^b:=by
     let:t*2^b=[Gq,AX t,2^b]:=by rw[tT,Y];congr 1;omega
     rw[this];rfl
    let h2:AX t*2^b<=2^(w+b+b):=[Cb,sK 2 (w+b),EZ _ M]
    let h3:=cN h2;rw[G];omega
   rw[TW,C0,∀t:Bm,0<=t->t*2^b=Ay [DQ,t*2^b],t,t0,Byr (sbb t0 (xa p0))]
   rw[Tj,g,G0,l1,l2,aaK m (n+5) [DQ,Blm*2^b] (Aue) hm (sz _ D0 Ac)];rw[Tj,P,H0,g1,v,aaK m (n+5) [DQ,u.2*2^b] (Aue) hm (sz _ Ac Ac)];rw[<-C0 _ D0]at G0;rw[<-C0 _ Ac]at H0;let L1:OP*g<=Blm*2^b:=by rw[C0 _ D0];let:=Ccd l1;rw[Tt,tT];rw[TQ]
   let L2:Blm*2^b<(OP+1)*(g+1):=by rw[C0 _ D0];let:=sfh.mpr l2;rw[Tt,tT];rw[TQ]
   let G1:Abl*P<=u.2*2^b:=by rw[C0 _ Ac];let:=Ccd g1;rw[Tt,tT];rw[TQ]
   let G2:u.2*2^b<(Abl+1)*(P+1):=by rw[C0 _ Ac];let:=sfh.mpr v;rw[Tt,tT];rw[TQ]
   show⟨[Bna,Cd b,El,GR c,As (pD u),Cd g,Dv (Abl+1)],Jm (Bp (en++[(OP,Abl+1)]) pD),?_,en++[(OP,Abl+1)],_,_,_,_,Ab,Ab,CO r,?_,?_,?_⟩
   ·let J0:∀U:sM,U=[Bna,Cd b,El,GR c,As (pD u),Cd g,Dv (Abl+1)]->Mo (Bb (n+6)) (Rg 2 [Gc,JC,JE]) U (Aue)=DJ U (Jm (Bp (en++[(OP,Abl+1)]) pD)):=by
     rintro U rfl;let e1:(Aue)[Cf]?=As Dfo:=AY
     let N:Bl [An,Apw] uq=Aa:=Bx (by rw[sr,r];unfold uq;omega);rw[e_ (a:=o.length) Em mu];simp only[csAll,sae,e1,N,fq,aj1];simp[xI]
    simp only[csAll,c1,fm,gB,mz,m0,f1,f2,sP,G0,H0,J0 _ Ab]
   ·show Np [AV,i,V];rw[su,s0]at V;rw[Td,l0,i<Acq];·rw[je l0];show EO.at_ i l0
    ·rw[Vr,i=Acq]
     rw[mP];let G:OP<=P:=aaS Ac (by
      let:g*g<(P+1)*(P+1):=by
       let N:Blm*2^b<=u.2*2^b:=yx (by let:=fu EO (l:=j) Ac s;rw[Tt,hu];omega) (xa p0);let:Gq g g<Gq (P+1) (P+1):=Cvt tT tT
       omega
      let h3:g<=P:=by
       rw[Td,q,g<=P];·show q
       ·let:=He [Ij,P+1<=g] [Ij,P+1<=g];omega
      let h4:=He h3 h3;rw[<-tT,<-tT];omega);show HS AE (by rw[TD];omega);let wk:1<=Cnw Acq:=S.one _;rw[Ud,r,wk];let L:Au u.2<=Cn ((Lo-1)*(Lo-1))*2^b:=by let h6:AX u.2<=(Lo-1)*(Lo-1)*2^b:=GN a2 [EZ,_,sfd];let T:Au [AX,u.2]<=[Gq,(Lo-1)*(Lo-1),2^b]:=Ccd h6;rw[tT,Y]at T;omega
     let h8:Abl<=Ay (Lo-1)*2^b:=aaS (sbb Ac (xa p0)) (by show sai G1 (sai (yx L (xa p0)) ?_);rw[tT];grind);let h9:Ay Lo*2^b=Ay (Lo-1)*2^b+2^b:=by
      let:Ay Lo=Ay (Lo-1)+1:=AE
      rw[this];grind
     rw[TD];omega
   ·intro i V;rw[su,s0]at V;rw[Td,l0,i<Acq];·rw[je l0];show a i l0
    ·rw[Vr,i=Acq]
     rw[mP,r];let nn:EY<=Qq*Gn:=am (af Q kb);rw[Yq,I0,Qq*Gn*(Qq*Gn),GP j c*Gn*Gn,J]
     let sco:EY<=GP j c*Gn:=am (af [Bfy,J,af Q Q] kb);rw[TH]
     ·show cg nn ?_;rw[I0,<-ak];show Cii _ _ (aL.mpr L1);rw[ak,cO];show ae (am kb) ?_;rw[Td,q,0<=u.1];·rw[Int.max_eq_left q];show v1
      ·rw[Dbu,aH];show sco
     ·show cg (cP (by rw[TD];omega)) ?_;rw[I0,<-ak];show Cii _ _ (ae (am kb) v2);rw[<-cO,<-ak,aL];show xa G2
   ·intro i c' p V e l;rw[su,s0]at V;rw[Td,l0,i<Acq]
    ·rw[je l0];let P0:p<=Acq:=by rw[Tj,j2,h2,U0,_,S.at_ i c' e];let:p=j2:=mO (l.symm.trans U0);omega
     rw[jf P0];show ER i c' p l0 e l
    ·rw[Vr,i=Acq]
     rw[r,f]at e;rw[Tr];let ej:p=j:=mO (l.symm.trans s);subst ej;rw[mP,jf Ac,hu];rw[TD];show⟨L1,L2,?_,G2,AE,AE⟩;rw[Of (Abl+1-1=P)];show G1) ⟨[],Ad,Ad,Ad,Ad,Ab,Ab,Ab,Bgr k h Azs,λk h=>Azs,Ir k c j Azs⟩;obtain⟨U,E0,hf,en,O,o4,o5,o6,rfl,rfl,r,EO,a,ER⟩:=F;show⟨en,?_,Cuy r,EO,a,ER⟩;let e1:(Aue)[Cf]?=As Dfo:=AY
 let N:Awq [Amv,Dq Apw,Ip (Aue) Cf Adx]=Mn Apw:=by rw[fe];simp[t4]
 rw[TW,e3,∀A:sM,uj A 2=El->Io (Bb (n+6)) Bss A (Aue)=[Dr,Dq Apw,Ip (Aue) Cf Adx],A,h,Asc (e9 h e1)]
 rw[ahR,Ap];rw[VQ,sg1,cM,hf];rw[e3 _ Ab];rw[UM,N]
end
theorem wz.take(H:wz e W b):wz (Bjr) W b:=Np [Jl,V,by
 let G:i<AG e:=by rw[ug]at V;omega
 let z:Aac Bjr i (0,0)=Bwx i 0:=by rw[w_,w_,sda [Chu,ug,V]]
 rw[z];show H.at_ i G]
def akd{e:Ann}(h:i<An Bjr):Aac Bjr i (0,0)=Bwx i 0:=Aiz w_ w_ (sda (by rw[Tg,ug];omega))
def ake(h:l<=An Bjr):Si (Bjr)=Si e:=by let:=jf (en:=Bjr) (en':=e.drop k) (b:=b) (l:=l) (x:=x) h;rw[Tt,List.take_append_drop];show this.symm
section
variable{K:Type}[OK K]{sq:List (List Int)}{W:List Nat}{w:Nat}{R:List K}
def akf(S:Aca w)(H:RY)(Y:8*w<=tr)(Z:k<Ho):1<=Qq*KP (2*w):=by
 rw[Wu,N];rw[Us,c,B,c,Awx=AW,_,Dz Z];rw[Tk,j,C,s,X,I,Bdn k B];let F:2^j<=4:=by let:2^j<=2^2:=OF;omega
 let h:2^j*w<=4*w:=EZ w F;let f:=jd S H j w c Ac s I Ac;let A:=f.mono (e':=2*w+2*w) [Bpa,EZ w [Ij,2^j-1<=4]];let Q:=H.pos k Z;let e:=H.sa6 k c j B s;let l:0<GP j c:=by rw[<-e];show af Q Q
 let x:=MX (2*w);let J:=Bay;let G:1<=GP j c*KP (2*w+2*w):=by
  rcases A with q|q|q;·rw[T',q.symm,(bW l)]
  ·show q
  ·let:=af l (MX (2*w+2*w));grind
 rw[<-e,gE]at G;show cg (am (af Q x)) ?_;grind
def akg(S:Aca w)(H:RY)(M:8*w<=tr)(t:wz L W b)(a:scn R L b)(P:sdM L sq b)(Z:k<AG L)(o:k<Ho){i:Nat}(d:∀(c:Ao)(j:Nat),Awx=AW->Aey=2^j->(Nd L j c).2-(Nd L j c).1<=MC):(Cbf (0,0)).2-(Cbf (0,0)).1<=Ay (i*2^(2*w)+2):=by
 rw[Us,c,f,c,Awx=AW,_,Dz o];rw[Tk,j,C,s,Q,I,Bdn k f];rw[TZ,X,N,O,p,U,y,P k c j Z f s];let n:=d c j f s;let r:=fu t (l:=j) (x:=c) Ac s;let V:=(a k Z).2;let m:=akf S H M o;let h:=MX b;let e:Ia<2^b:=Awy;let q:Rq^b<=(Cbf (0,0)).2*2^(2*w):=by
  let G:Gn<=Qq*Gn*KP (2*w):=by let:=ae (am h) m;grind
  let z:=ae (am (MX (2*w))) V;let F:=Bcd _ _ G z;rw[<-cO,<-cO,<-ak,aL]at F;show F
 rw[XQ,(Cbf (0,0)).2,l];rw[XQ,(Cbf (0,0)).1,B];rw[XQ,(Nd L j c).1,u1];rw[XQ,(Nd L j c).2,u2];rw[Td,hg,l-1<=B+1]
 ·let:Ia<=Gq i (2^(2*w)):=AE
  rw[xG];omega
 ·let T:(l-1)*(l-1)-(B+1)*(B+1)<(u2-Aux u1)*2^b:=by let g:(u2-Aux u1)*2^b=u2*2^b-Aux u1*2^b:=Int.sub_mul _ _ _;omega
  let v:(u2-Aux u1)*2^b<=MC*2^b:=yx Ac (xa e);let A:MC*2^b<=MC*(l*2^(2*w)):=sfi q Ac;rw[Tq,x,(l-1)*(l-1)-(B+1)*(B+1)=(l-1-(B+1))*(l+B)]
  let J:(l-1-(B+1))*l<=(l-1-(B+1))*(l+B):=sfi Ac Ac;let Y:(l-1-(B+1))*l<(MC*2^(2*w))*l:=by
   let:MC*(l*2^(2*w))=(MC*2^(2*w))*l:=Aq
   omega
  let u:=sjE Y Ac;rw[xG,tT,aU];omega
def aaT(h:a<=b):Ay (2^a)<=Ay (2^b):=Byr (zh [Ij,0<2] h)
def jg(h:a+1<=c)(g:b+1<=c):2^a+2^b<=2^c:=by
 let G:2^a<=2^(c-1):=OF;let z:2^b<=2^(c-1):=OF;let F:2^c=2^(c-1)*2:=by rw[<-t5];congr 1;omega
 omega
def sfj(q:Nat):Aw->Aw|0=>1|1=>3*q+4|_=>7*q+9
def akh(S:Aca w)(J:RY)(Z:1<=q)(o:w<=q)(B:Bhu (2^q))(p:8*w<=tr)(r:AG G=Ho)(t:wz G W b)(a:scn R G b)(P:sdM G sq b):∀n k,k<n->k<AG G->(G.getD k (0,0)).2-(G.getD k (0,0)).1<=Ay (2^sfj q k):=by
 rw[Wu,N];let m:2<=2^q:=by let:2^1<=2^q:=Mc Z;omega
 intro n;induction n with
 |zero=>intro k h;omega
 |succ n d=>
  intro k M g;rw[Td,l,k<n];·show d k l g
  ·rw[Vr,k=n]
   let u:∀(c:Ao)(j:Nat),Awx=AW->Aey=2^j->(Nd G j c).2-(Nd G j c).1<=Ay [Bo,k=0,0,2^(k*(q+2))*2^sfj q (k-1)]:=by
    intro c j f s;rw[Tk,A,C,L,X,I,Bdn k f];rw[VM,j=A,mO (s.symm.trans L)];rw[Td,H,k=0]
    ·rw[Av H];rw[Vr,j=0]
     unfold xJ;rw[TD];omega
    ·rw[AF H];let F:An (G.take k)=k:=Fb ug
     let e:=jc (en:=G.take k) (M:=2^q) (δ:=2^sfj q (k-1)) t.take Bvm B m (Jl V (by rw[akd V];rw[F]at V;show sai (d i Ac Ac) (aaT ?_);match k,i,g,V with|1,0,_,_=>show Ach|2,0,_,_=>change 1<=3*q+4;omega|2,1,_,_=>show Ach|k+3,_,h,_=>omega)) (uz _) (l:=j) (x:=c) Ac s (GN I [Mc,o]);rw[TV,ake Ac];show sai e (Ccd (shN _ ?_));rw[show 4*2^q=2^(q+2)by rw[sK];omega,<-Nat.pow_mul];show Mc [Eb,zf,EZ _ C]
   show sai (akg S J p t a P g Ac u) (sfk.mpr ?_);match k,g with|0,_=>simp[sfj]|1,_=>change 2^(1*(q+2))*2^1*2^(2*w)+2^1<=2^(3*q+4);rw[<-sK,<-sK];show jg Ac Ac|2,_=>change 2^(2*(q+2))*2^(3*q+4)*2^(2*w)+2^1<=2^(7*q+9);rw[<-sK,<-sK];show jg Ac Ac|k+3,h=>omega
def aaU(S:Aca w)(H:RY)(Z:1<=q)(o:w<=q)(B:Bhu (2^q))(p:8*w<=tr)(r:Aas=Ho)(t:wz A W b)(a:scn R A b)(P:sdM A sq b)(U:l<=Ho)(O:AD=2^l)(f:KR<=2^q):(Si A).2-(Si A).1<=Ay (2^(10*q+15)):=by
 rw[Wu,N];let m:2<=2^q:=by let:2^1<=2^q:=Mc Z;omega
 let e:=jc (M:=2^q) (δ:=2^(7*q+9)) t Bvm B m (Jl V (by show sai (akh S H Z o B p r t a P (i+1) i Ac V) (aaT ?_);match i,V with|0,_=>change 1<=7*q+9;omega|1,_=>change 3*q+4<=7*q+9;omega|i+2,_=>show Ach)) (uz _) (l:=l) (x:=x) Ac O f;show sai e (sfk.mpr ?_);rw[show 4*2^q=2^(q+2)by rw[sK];omega,<-Nat.pow_mul,<-sK];show zh Ac ?_;let:(q+2)*l<=(q+2)*3:=Atj Ac;omega
end
structure sfl(K:Bq)[Dw](sq:JP)(W:Ak)(w:Nat)(R:Ct)(q lt:Nat)(top:Ao)(ld:Nat)(dv:Ao):Al where
 so:Aca w
 ro:RY
 q1:1<=q
 qm:q<=40000
 wq:w<=q
 hz:Bhu (2^q)
 saj:lt<=Ho
 sak:ld<=Ho
 tl:top.length=2^lt
 dl:dv.length=2^ld
 tn:C_ lt JR<=2^q
 dn:C_ ld dv<=2^q
 tp:0<OH
 dp:0<LB
def UB:Aw:=FL
def mQ:UB=FL:=rfl
def jh:60000000<=tr:=by grind[tr]
def uD(u v:Int)(c:Bool):D:=BH [AZ u,AZ v,Ff c]
theorem u0:Bhx (uD u v c)=JL u:=rfl
theorem u1:Ajn (uD u v c) Afa=JL v:=rfl
theorem u2:Ajn (uD u v c) (Adg)=JM c:=rfl
def aki:Bgv [AZ u,AZ v,Ff c]=uD u v c:=rfl
def akj:Bfp (uD u v c)=BN (uD u v c):=iQ
section
variable{K:Type}[OK K]{sq:List (List Int)}{W:List Nat}{w:Nat}{R:List K}{q lt ld:Nat}{top dv:List Int}
structure sfm(R:Ct)(lt:Nat)(top:Ao)(ld:Nat)(dv:Ao)(u v:Nat)(c:Bool):Al where
 low:LY u*LB<=OH*P_
 sfn:OH*P_<sk (Axp+1)*LB
 near:u<=v/\v<=u+1
 more:c=Aa->LY u*LB<OH*P_
 small:u<=2^(8*q+UB)
def akk(m n b:Nat)(hm:Afe)(Q:sfl K sq W w R q lt JR ld dv)(o:sd)(T:b<=Clo):(Cg (n+8) 33 [Bwh,Bwg,All,En]=Cnq/\b<25*q+UB+19)\/Cqk (Cg (n+8) 33 [Bwh,Bwg,All,En]=BN (uD u v c)/\sfm (q:=q) R lt JR ld dv u v c):=by
 let bc:=jh;let qm:=Q.qm;let wq:=Q.wq;let N:=Q.so.three;let saj:=Q.saj;let sak:=Q.sak;rw[TZ,en,l,el,t,a,P,akc m n b q hm Q.so Q.ro o Q.hz Ac];let I:=gC m t Bre o [DK,Apw] Ab q Q.hz lt (n+5-lt) JR q Ac Ac Q.tl Q.tn Ac;let O:=gC m t Bre o [DK,Apw] Ab q Q.hz ld (n+5-ld) dv q Ac Ac Q.dl Q.dn Ac;rw[FZ (n+5-lt+lt+2=n+7)]at I;rw[FZ (n+5-ld+ld+2=n+7)]at O;rw[Tc,P1,Q1,ft t Bre (l:=lt) Ac Q.tl];rw[Tc,C1,J0,gF t a (l:=lt) Ac Q.tl];rw[Tc,O0,l0,gF t a (l:=ld) Ac Q.dl];let tw:=aaU Q.so Q.ro Q.q1 Q.wq Q.hz Ac el t a P saj Q.tl Q.tn;let dw:=aaU Q.so Q.ro Q.q1 Q.wq Q.hz Ac el t a P sak Q.dl Q.dn;let U1:=fu t (l:=lt) (x:=top) Ac Q.tl;let tq:C_ lt JR*2^b<=2^(q+b):=Cb sK [EZ,_,Q.tn]
 let h:=MX b;let P0:Gn<=LB*Gn*KP (7*q):=by
  let p:=Dfq;let f:=(jd Q.so Q.ro ld q dv sak Q.dl Q.dn [Bpa,EZ q p]).mono (e':=7*q) (EZ q Ac);let G:1<=LB*KP (7*q):=by
   rcases f with z|z|z;·rw[T',z.symm,(bW Q.dp)]
   ·show z
   ·let:=af Q.dp (MX (7*q));grind
  let:=ae (am h) G;grind
 rw[TK,Nd en lt JR,A];rw[TK,Nd en ld dv,B];let k:=MX (7*q);let C0:Rq^b<=Gs*2^(7*q):=by let h2:=ae (am k) l0;let F:=Bcd _ _ P0 h2;rw[<-cO,<-cO,<-ak,aL]at F;show F
 let C:Ia<2^UB:=Awy;let E0:0<Gs:=by
  let G:CA 0<sk Gs:=Cb aH (sad (af Q.dp h) l0)
  show bP.mp G
 let J1:0<A.2:=by
  let G:CA 0<sk A.2:=Cb aH (sad (af Q.tp h) J0)
  show bP.mp G
 let Z:(Iz (Ia>A.1) 0 A.1)=QQ:=by split<;>omega
 rw[Uc,Y0,0<=QQ]
 rw[Td,M,Hh<=0]
 ·rw[TB,Bpl];·rw[lR,Ap];simp-implicitDefEqProofs only[sdq,csAll,l,I,O,fm,Bx M]
  ·rw[Td,x,b<25*q+UB+19];·show x
   ·exfalso;let G:Gs<=2^(10*q+15):=by let:=aU (10*q+15);omega
    let h2:Rq^b<=2^(10*q+15)*2^(7*q):=sai C0 (yx G (xa (Awy)));rw[<-aU,<-aU,<-aU,<-tT,<-sK]at h2;let F:=sfk.mp h2;let h4:=(Nat.pow_le_pow_iff_right [Ij,1<2]).mp F;omega
 ·let H0:Bn Hh 0=Af:=B_ M;let f1:t_ (QQ) FL=Aa:=ck (b:=FL) (p:=q+b) Ac Ac;let y:t_ A.2 FL=Aa:=ck (b:=FL) (p:=q+b) Ac Ac;let g:Bl 0 Gs=Aa:=Bx E0;let g2:Sf Hh=Aa:=Db;rw[Ti,t1,Cbx FL=UB];let fd:(A.2*2^UB).fdiv Hh=A.2*2^UB/Hh:=sjF _ Ac;let n1:0<=QQ*2^UB:=sbb Y0 (xa C);let J:0<=A.2*2^UB:=sbb Ac (xa C);let s:=sfg (QQ*2^UB) Gs;let I0:=shJ (QQ*2^UB) [Ij,CV Gs];let V0:=sdL (QQ*2^UB) E0;let mq:=sfg (A.2*2^UB) Hh;let W0:=shJ (A.2*2^UB) [Ij,CV Hh];let X0:=sdL (A.2*2^UB) [Ij,0<Hh];let D0:0<=QQ*2^UB/Gs:=Deb n1;let D1:0<=A.2*2^UB/Hh:=Deb J;generalize hU:QQ*2^UB/Gs=U at s D0;generalize hV:A.2*2^UB/Hh=V at mq D1 fd;generalize hr:QQ*2^UB%Gs=r at s I0 V0;generalize A.2*2^UB%Hh=r' at mq W0 X0;rw[Uc,T1,QQ<=A.2]
  let Z0:sk (QQ)<=OH*Gn:=by
   rw[UG,0<=A.1];·rw[Int.max_eq_left z];show C1
   ·rw[Dbu,aH];show am (af Q.tp h)
  let G0:CA (2^UB)=P_:=cO UB;let ku:EY<=sk U:=cP D0;let kv:EY<sk (V+1):=by let:=Hg [Cpr,V+1] Ac;rw[Tt,aH];rw[TQ]
  let N1:sk U*LB*Gn+sk r<=OH*P_*Gn:=by
   let X:CA Gs*sk U+sk r=sk (QQ)*P_:=by rw[<-G0,<-ak,<-ak,<-az,s]
   let a2:=ae ku l0;let H:=ae (am (MX UB)) Z0;grind
  let Q0:OH*P_*Gn<sk (V+1)*LB*Gn:=by
   let X:CA A.2*P_<sk Hh*sk (V+1):=by
    rw[<-G0,<-ak,<-ak,bP];let:Hh*(V+1)=Hh*V+Hh:=Aq
    omega
   let a2:=ae (am (MX UB)) J0;let H:=ae (am kv) O0;grind
  let kr:EY<=sk r:=cP I0;let LE:sk U*LB<=OH*P_:=by rw[<-bo h];grind
  let LT:OH*P_<sk (V+1)*LB:=by rw[<-cJ h];show Q0
  let UV:U<=V:=by let G:=shE LE LT;rw[cJ (K:=K) Q.dp,Cul]at G;omega
  let Ub:Ga U<=2^(8*q+UB):=by
   let G:U*Gs<=2^(q+b)*2^UB:=by
    let:QQ<=2^(q+b):=by rw[<-aU];omega
    let h2:=yx this (xa C);rw[Int.mul_comm];omega
   let h2:U*2^b<=2^(q+b)*2^UB*2^(7*q):=by
    let X:=sfi C0 D0;let a2:=yx (c:=2^(7*q)) G (xa (sjG (Of (Ia<2))));let:U*(Gs*2^(7*q))=U*Gs*2^(7*q):=Aq
    omega
   let e:Rq^(q+b)*2^UB*2^(7*q)=2^(8*q+UB)*2^b:=by rw[<-Int.pow_add,<-Int.pow_add,<-Int.pow_add,FZ (q+b+UB+7*q=8*q+UB+b)]
   rw[e]at h2;let F:=Int.le_of_mul_le_mul_right h2 (Awy);rw[<-aU]at F;omega
  rw[Td,j,1<V-U]
  ·rw[TB,Bpl];·rw[lR,Ap];simp-implicitDefEqProofs only[sdq,csAll,l,I,O,fm,gB,H0,mz,Z,f1,y,t1,g,g2,hU,hr,fd,fq,Bx j]
   ·rw[Td,x,b<25*q+UB+19];·show x
    ·exfalso;let X:(U+2)*Hh<=A.2*2^UB:=by let:(U+2)*Hh<=V*Hh:=yx Ac Ac;rw[Tt,Int.mul_comm V];omega
     let a2:QQ*2^UB<(U+1)*Gs:=by
      let:(U+1)*Gs=Gs*U+Gs:=Aq
      omega
     generalize U0:Ay (2^(10*q+15))=i at tw dw;rw[Uc,F1,0<=i]
     rw[Wg,H,A.2*2^UB,QQ*2^UB+i*2^UB,Int.add_mul,yx Ac (xa C)]
     rw[Wg,a4,(U+1)*Gs,(U+1)*Hh+(U+1)*i,Int.mul_add,sfi Ac Ac]
     let a5:Hh<(U+1)*i+i*2^UB:=by
      let:(U+2)*Hh=(U+1)*Hh+Hh:=Aq
      omega
     let a6:(U+1)*i<=2^(8*q+UB+1)*i:=yx (by
      let G:Ga U+1<=2^(8*q+UB+1):=by
       let:2^(8*q+UB+1)=2^(8*q+UB)*2:=Cbd t5
       let:=uz (8*q+UB);omega
      rw[<-aU];omega) F1;let a7:Gs<2^(18*q+UB+19):=by
      rw[Uc,G,Gs<=Hh+i]
      rw[Uc,h2,Gs<2^(8*q+UB+1)*i+i*2^UB+i]
      let F:Rq^(8*q+UB+1)*i+i*2^UB+i<=2^(18*q+UB+19):=by
       let b3:2^(8*q+UB+1)*2^(10*q+15)+2^(10*q+15)*2^UB+2^(10*q+15)<=2^(18*q+UB+19):=by rw[<-sK,<-sK];let b1:=jg (a:=8*q+UB+1+(10*q+15)) (b:=10*q+15+UB) (c:=18*q+UB+18) Ac Ac;let b2:=jg (a:=18*q+UB+18) (b:=10*q+15) (c:=18*q+UB+19) Ac Ac;omega
       let d:=Ccd b3;rw[xG,xG,tT,tT]at d;rw[<-U0];simp only[aU]at d|-;show d
      omega
     let a8:Rq^b<2^(18*q+UB+19)*2^(7*q):=Int.lt_of_le_of_lt C0 (Int.mul_lt_mul_of_pos_right a7 (Awy));rw[<-aU,<-aU,<-aU,<-tT,<-sK]at a8;let h4:=(sjr [Ij,1<2]).mp (sfh.mp a8);omega
  ·rw[TN,⟨Ga U,V.toNat,Bl 0 r,?_,?_⟩]
   ·rw[Uc,Y,Ay [Ga,U]=U]
    rw[Uc,eV,Ay V.toNat=V]
    rw[lR,Ap,Y,eV];simp-implicitDefEqProofs only[sdq,csAll,l,I,O,fm,gB,H0,mz,Z,f1,y,t1,g,g2,hU,hr,fd,fq,B_ j,aki,akj]
   ·rw[Uc,Y,Ay [Ga,U]=U]
    rw[Uc,eV,Ay V.toNat=V]
    rw[TU,by rw[Y];show LE,by rw[eV];show LT,Aj AE AE,FC L,Ub];rw[Y];let M1:EY<sk r:=by let:=Hg (bP (K:=K) (a:=0) (b:=r)) (Cm L);rw[Tt,aH];rw[TQ]
    rw[<-cJ h];grind
end
section
variable{K:Type}[OK K]{sq:List (List Int)}{W:List Nat}{w:Nat}{R:List K}{q lt ld:Nat}{top dv:List Int}
def mR(J:Bhv 1)(O:AD=2^l)(f:KR<=2^p)(B:GD<=2^e)(h:e+p<=tr):∀y∈x,tj z y=Aa:=λy Q=>c6 B (EI (dD J O y Q) f) h
def aaV(m n:Nat)(Q:sfl K sq W w R q lt JR ld dv)(o:sd)(u:Nat)(F:u<=2^(8*q+UB+1)):∃z:Int,Cg (n+14) 34 [Bwh,Bwg,All,AT u]=JL z/\Sg z (OH*P_-LY u*LB):=by
 let P:=jh;let f:=Q.qm;let y:=Q.wq;let N:=Q.so.three;let saj:=Q.saj;let sak:=Q.sak;let j:=mQ;let G:t_ 1 FL=Aa:=ck (a:=1) (b:=FL) (p:=0) AN Ac;let e:Apb*2^Cbx FL=Ay (2^UB):=Ch
 rw[Tq,X,AX (Ay (2^UB))<=2^UB]
 let M:=fj m (n+12) [Ay,2^UB] JR o (mR Bre Q.tl Q.tn X Ac);let T:=fj m (n+12) KC dv o (mR (e:=8*q+UB+1) Bre Q.dl Q.dn (F) Ac);let Z:AG Cyv=2^lt:=by rw[sr];show Q.tl
 let I:AG Cpi=2^ld:=by rw[sr];show Q.dl
 let C:C_ lt Cyv<=2^(9*q+UB+1):=by rw[cj W _ Q.tl,wc];show Bef (Atj Q.tn);rw[<-sK];show OF
 let J:C_ ld Cpi<=2^(9*q+UB+1):=by rw[cj W _ Q.dl,wc];show Bef (He F Q.dn);rw[<-sK];show OF
 let b:=Dfr;let a:=Dfq;let U:=mG m (n+10) _ _ o (show(top.map (((2^UB:Nat):Int)*·)).length<=1000 by omega) (show(dv.map ((u:Int)*·)).length<=1000 by omega) (λz B=>EI (cN (EI (dD Bre I z B) J)) Ac);let i:AG Cyj=2^ld:=by rw[sr];show I
 let V:=dS Z i;let r:=dW W Z i;let H:C_ ld Cyj=C_ ld Cpi:=by rw[cj W Hj I];simp
 let A:C_ (Ik lt ld) (u9 (top.map (((2^UB:Nat):Int)*·)) ((dv.map ((u:Int)*·)).map (-1*·)))<=2^(9*q+UB+2):=by
  show Bef r;let:2^(9*q+UB+2)=2^(9*q+UB+1)*2:=Cbd t5
  omega
 let s:=dE (l:=Ik lt ld) Ac;rw[Tj,z,B,_,O,fk Q.so m o (Ik lt ld) (n+3-Ik lt ld) (9*q+UB+2) _ Ac V A [Bpa,EZ (9*q+UB+2) s]];rw[FZ (n+3-Ik lt ld+Ik lt ld+10=n+13)]at B;show Pz z;·rw[ah1,Ap];rw[Uy,shb,G,e,M,T,U,B]
 ·let:=O K R Q.ro;rw[dU R Z i,ci R Hj I,ci R _ Q.tl,ci R _ Q.dl,aq,ah]at this;rw[show OH*P_-LY u*LB=Csu (2^UB)*OH+-1*(LY u*LB)from Cfz KP];rw[TQ]
structure slr(R:Ct)(lt:Nat)(top:Ao)(ld:Nat)(dv:Ao)(q u:Nat)(c:Bool):Al where
 low:LY u*LB<=OH*P_
 sfn:OH*P_<sk (KC+1)*LB
 more:c=Aa↔LY u*LB<OH*P_
 small:u<=2^(8*q+UB+1)
def cD(u:Int)(c:Bool):D:=Aql u [Ff,c]
theorem c0:Bhx (cD u c)=JL u:=rfl
theorem c1:Ajn (cD u c) Afa=JM c:=rfl
def dF:Bgv [AZ u,Ff c]=cD u c:=rfl
def dG:Bfp (cD u c)=BN (cD u c):=iQ
def akl(H:Afe)(h:k<=22):2^k+1<m:=H k Bye
def akm:wy (uD u v c)=Af:=rfl
def akn(m n:Nat)(P:Afe)(Q:sfl K sq W w R q lt JR ld dv)(o:sd):∃(u:Nat)(c:Bool),Cg (n+15) 35 [Bwh,Bwg,All]=BN (cD u c)/\slr R lt JR ld dv q u c:=by
 let f:=Q.qm;let ub:=mQ;let M:=akl (k:=22) P Ac;let U:=Acb (akk m (n+6) b P Q o T);rw[TW,l0,RG b (b<=Clo->∃r:D,Cg (n+14) 33 [Bwh,Bwg,All,En]=Fw r/\((r=Bt/\b<=1200000)\/Cqk (r=uD u v c/\sfm (q:=q) R lt JR ld dv u v c))),b,T,by rw[Xw,U b T,G,O,u,v,c,G,O];all_goals grind]
 rw[Te,Z,e,k,l0 1200 Ac];let p:=fg (cl:=Bb (n+14)) (m:=m) (c:=Afx .is CT Alt) (b:=[Axj,3,Ge (Mq) EL,F_ 4 [Iw,33,Sm AL Bj NH]]) (λA V=>V=o/\∃(b:Nat)(r:D),1200<=b/\b<=Clo/\A=[GR JR,GR dv,Bna,Cd b,Ae r,Ad,Ad,Ad]/\((r=Bt/\b<=1200000)\/Cqk (r=uD u v c/\sfm (q:=q) R lt JR ld dv u v c))) (λA _=>match A with|[_,_,_,some (.int i),_,_,_,_]=>Clo-JT|_=>0) (λd=>∃(b:Nat)(u v:Nat)(c:Bool),d=Arq [GR JR,GR dv,Bna,Cd b,As (uD u v c),Ad,Ad,Ad]/\sfm (q:=q) R lt JR ld dv u v c) (by
  rintro A V⟨rfl,b,r,b1,b2,rfl,hr⟩;rcases hr with⟨rfl,T⟩|⟨u,v,c,rfl,t⟩
  ·rw[Te,F,a,l,l0 (2*b) Ac];let f1:tj 2 Cj=Aa:=c6 (p:=1) (q:=22) Dc Ac Cax;rw[Uc,N,Rq*Cj=Gq 2 b]
   show Kq Dff [AK,Bcm _ (by rw[Wm,f1,N,a]) [BF,Ab,2*b,F,AE,AE,Ab,l]];rw[Vm,sP];omega
  ·rw[TB,BF [Ala,akm] b u v c Ab t]) [GR JR,GR dv,Bna,RI 1200,Ae Z,Ad,Ad,Ad] o [BF,Ab,1200,Z,AE,AE,Ab,k] (by rw[Vm,sP];omega);obtain⟨b,u,v,c,Y,B⟩:=p;let s:u<=2^(8*q+UB+1)/\v<=2^(8*q+UB+1):=by let G:=B.small;let O:=B.near;let:=uz (8*q+UB);omega
 rw[Ti,J,JS 1200=Axx 1200];rw[Td,L,u=v/\c=Aa];·obtain⟨rfl,rfl⟩:=L;show⟨u,Aa,?_,B.low,B.sfn,Aj [Ej,B.more Ab] Arv,s.1⟩;let x:FU u KC=Aa:=Bx Ab;rw[lS,Ap];simp only[sdr,csAll,J,e,Y,u0,u1,u2,x,dF,dG]
 ·rw[Te,z,C,g,aaV m n Q o v s.2];rw[Te,y,X,j,aaV m n Q o u s.1];let cond:[Cv,FU u Axp=Aa,SG (D.bl c) o,SG (D.bl Af) o]=JM Af:=by
   rw[Tv,u=v]
   ·rw[Av (Db)];let:c=Af:=by cases c with|false=>rfl|true=>rw[T',Aku h,L]
    rw[this]
   ·rw[AF [Bjh,MT]]
  rw[Td,H,0<=z]
  ·show⟨v,Bl 0 z,?_,?_,B.sfn,?_,s.2⟩
   ·rw[lS,Ap];simp only[sdr,csAll,J,e,Y,u0,u1,u2,C,Bx H,dF,dG];rw[Tv,KC=Axp]
    ·let:c=Af:=by cases c with|false=>rfl|true=>rw[T',Aku AE,L]
     simp only[Abb,this,csAll,C,Bx H,dF,dG]
    ·rw[Uh,OL,C,Bx H,dF,dG]
   ·let:=g.of_le.mp H;grind
   ·rw[sa4,g.pos];rw[TH]<;>rw[UH]<;>grind
  ·let I:OH*P_<LY v*LB:=by let:=g.neg.mp Ac;grind
   show⟨u,c||Bl 0 y,?_,B.low,?_,?_,s.1⟩
   ·rw[lS,Ap];simp only[sdr,csAll,J,e,Y,u0,u1,u2,C,B_ H,dF,dG];rw[Tv,KC=Axp]
    ·let:c=Af:=by cases c with|false=>rfl|true=>rw[T',Aku AE,L]
     simp only[Abb,this,csAll,C,X,u2,B_ H,dF,dG,sdF]
    ·cases c with|true=>rw[Uy,OL,C,u2,B_ H,dF,dG,seI]|false=>rw[Vj,OL,C,X,u2,B_ H,dF,dG,sdF]
   ·show sad I (ae (am Q.dp) ?_);rw[aL];let:=B.near;omega
   ·rw[vc,sa4,j.pos];rw[TH]
    ·rintro(h|h);·show B.more h
     ·grind
    ·rw[UH];right;grind
end
def ako(m n:Nat)(zi R H A:Nat)(B N:Bool)(o:sd):Cg (n+1) 36 [AT zi,AT R,AT H,Ff B,Ff N,AT A]=JM (sa5 A zi R H B N):=by
 rw[Ti,I,Sf Rq=Aa];let x:[Au,zi].fmod 2=Ay (zi%2):=Fb (sjH _ Ac)
 let g:Blg H R=Bl H R:=by rw[Tv,H<R]<;>simp[h]
 let v:FU R [Au,H]=AQ R H:=by rw[Tv,R=H]<;>simp[h]<;>omega
 let G:AQ [Ay,zi%2] 1=AQ (zi%2) 1:=by rw[Tv,zi%2=1]<;>simp[h]<;>omega
 let a:Bkd Ia R=Bl 0 R:=by rw[Tv,0<R]<;>simp[h]<;>omega
 rw[ah2,Ap];unfold sa5;rw[Td,Z,A=0];·rw[Av Z];rw[Uy,sbZ,Bx (Of (Abm=0)),g,v,I,x,G];cases Bl H R<;>cases AQ R H<;>cases B<;>rw[Wm,I,x,G]<;>rfl
 ·rw[AF Z];rw[Td,V,A=1];·rw[Av V];rw[UA,sbZ,B_ (Of (¬Abm=0)),Bx (Of (Abm=1)),a];cases N<;>cases Bl 0 R<;>cases B<;>rw[Wx]<;>rfl
  ·rw[AF V];rw[Td,P,A=2];·rw[Av P];rw[Uh,sbZ,B_ (Of (¬Abm=0)),B_ (Of (¬Abm=1)),Bx (Of (Abm=2)),a];cases N<;>cases Bl 0 R<;>cases B<;>rw[Wx]<;>rfl
   ·rw[AF P];rw[UA,sbZ,B_ (Of (¬Abm=0)),B_ (Of (¬Abm=1)),B_ (Of (¬Abm=2))]
def akp(h:Axi=Dv a)(Y:ev r e A o=JL b):Mo r (.aug i e) A o=Arq (MS (Dv (a+b))):=by change Cpg (uj _ i) _ _=_;rw[h,Y];rfl
def akq(u:Nat):xE KC=Rd.bl u:=by
 unfold xE Rd.bl;rw[Tv,u=0];·rw[Nj,NA]
 ·rw[My,Nw,wc]
def ji(u d:Nat):KC/2^d=Ay (u/2^d):=Ch
def akr(m n:Nat)(u A:Nat)(B C:Bool)(o:sd)(e:Nat)(F:u<=2^e)(Y:e<=10000000):Cg (n+2) 37 [AT u,Ff B,Ff C,AT A]=JL [Cn,sdD u B C A]:=by
 let P:=jh;let U:Rd.bl u<=e+1:=by unfold Rd.bl;split;omega;let:=cN F;omega
 let j:Dd<=e+1:=by unfold sck;omega
 let d:=aan u;let V:(if Apb>Cmy KC-53 then 1 else Cmy KC-53)=Ahy:=by rw[akq];unfold sck;split<;>omega
 let I:Bn 0 Ahy=Aa:=Db;let K:u/2^Dd<=2^e:=EI (Nat.div_le_self _ _) F;let G:t_ [Ay,u/2^Dd] Ahy=Aa:=ck (p:=e) (by rw[wc];show K) Ac;let W:KC-Ay (u/2^Dd)*2^DQ Ahy=Ay (u-u/2^Dd*2^Dd):=by rw[sP,<-aU,<-tT];let:=Dbz (2^Dd);omega
 let y:t_ 1 (Ahy-1)=Aa:=Cb [Bca,Ahy-1=Ay (Dd-1)] (ck (a:=1) (p:=0) Dc Ac)
 let H:Apb*2^DQ (Ahy-1)=Ay (2^(Dd-1)):=by rw[Bca (Ahy-1=Ay (Dd-1)),sP,Int.one_mul,aU]
 let a:=ako m n (u/2^Dd) (u-u/2^Dd*2^Dd) (2^(Dd-1)) A B C o;let N:t_ (Ahy-1) 52=Aa:=by
  show ck (b:=52) (p:=24) ?_ Ac;let:AX (Ahy-1)=Dd-1:=AE
  rw[this];omega
 let z:t_ 1 63=Aa:=ck (a:=1) (b:=63) (p:=0) Dc Ac;rw[Ti,t,Cbx 52=52];rw[Ti,T,Cbx 63=63];rw[Tx,R,RG k (([Bdc,C=Aa,(Ahy-1)*2^52+Ey+1*2^63,(Ahy-1)*2^52+Ey])=Ay ((Dd-1)*2^52+k+[Cv,C=Aa,2^63,0])),k,by cases C<;>rw[Wv,tF]<;>omega]
 rw[ah3,Ap];unfold sdD;rw[TD];cases M:sa5 A (u/2^Dd) (u-u/2^Dd*2^Dd) (2^(Dd-1)) B C with
 |true=>
  rw[M]at a;rw[Tx,b,∀O,Mo (Bb (n+1)) (.aug 5 QL) [Cd u,Cmx B,Cmx C,Cd A,RI Dd,RI (u/2^Dd),RI (u-u/2^Dd*2^Dd),O] o=Arq [Cd u,Cmx B,Cmx C,Cd A,RI Dd,RI (u/2^Dd+1),RI (u-u/2^Dd*2^Dd),O],O,DY (akp (a:=Ay (u/2^Dd)) (b:=1) Ab Ab)]
  simp-implicitDefEqProofs only[seV,csAll,V,I,sP,ji,G,y,N,z,H,a,t,T];rw[show(KC-Ay (u/2^Dd)*2^Dd)=Ay (u-u/2^Dd*2^Dd)from by rw[<-W,sP]];simp-implicitDefEqProofs only[csAll,a,b,N,z,t,T];rw[<-R];cases C<;>simp-implicitDefEqProofs only[csAll,N,z,t,T]
 |false=>rw[M]at a;simp-implicitDefEqProofs only[seV,csAll,V,I,sP,ji,G,y,N,z,H,a,t,T];rw[show(KC-Ay (u/2^Dd)*2^Dd)=Ay (u-u/2^Dd*2^Dd)from by rw[<-W,sP]];simp-implicitDefEqProofs only[csAll,a,N,z,t,T];rw[<-R];cases C<;>simp-implicitDefEqProofs only[csAll,N,z,t,T]
def aks{K:Bq}[Dw]{J:Ct}{t:Tower}(v:Afm){x:Num}(O:AD=2^AH)(H:Jb=0)(A:Nat):Cfh (Coa t x)=0:=by
 let o:=Bay;rw[TW,f,Bnv q (0<q->Avd x q=Aa),q,Z,by grind[gq,cG]]
 let c:double.place t x=Awr:=by
  unfold Format.place double;let:least (Cms [Avd,x,(Jc (Ay 53+Au Awr+LD))])=0:=aaj (λi j _ _=>f _ (ma _)) (f _ (ma _)) Ac λj C=>AE
  grind
 let e:Bdi (Jc (-(Awr))) x=2^AH:=by grind[bH]
 let h:LL [Fh,(Jc (-(Awr))),x]=0:=DR (bn _ J (DR v.len))
 generalize Q:Fh (Jc (-(Awr))) x=y at e h;let F:Fl (Ajx) (Cok y):=by show aal v e (N:=0) Ac ?_ ?_<;>rw[h]<;>(grind[cG])<;>grind
 let B:Cok y=0:=F.uniq [Aj,Cac h aH Cil,by rw[h,Int.zero_add,ah];show o];let N:nearest t y=0:=(aam v e F).uniq (by
  let k:=ah (K:=K);show⟨?_,?_,Arv⟩;·rw[show 2*Ia-1=-1 by rfl,aq];grind
  ·grind);let b:Caq y [Co,Ia]=0:=(eU v e _).zero.mpr (by let:Ack Ia=0:=aH;grind);let w:Car t y=0:=by
  unfold wholeBy;rw[TD];rw[B,b,JO,N];split;·rfl
  ·split;·rfl
   ·split;·rfl
    ·rfl
 let X:Bl [Bma,x] 0=Af:=B_ (λq=>by let:=(u8 v O).neg.mp q;rw[Tt,H];rw[T',Ab,(bW this)]);unfold Format.round;rw[Vs,X,c,Q,w];rfl
section
variable{K:Type}[OK K]{sq:List (List Int)}{W:List Nat}{w:Nat}{R:List K}{q lt ld:Nat}{top dv:List Int}
def akt{a:K}(h:Sg z a):GD<=2^0:=by rw[Xa,rfl,_,rfl,_,rfl,_]<;>decide
def aku(m n A:Nat)(hm:Afe)(S:Aca w)(H:RY)(U:1<=q)(f:q<=40000)(y:w<=q)(B:Bhu (2^q))(saj:lt<=Ho)(sak:ld<=Ho)(d:top.length=2^lt)(l:dv.length=2^ld)(tn:C_ lt JR<=2^q)(i:C_ ld dv<=2^q)(dp:0<LB)(v:Afm)(O:AD=2^AH)(Y:OH=Jb*LB)(hB:Jb<Bub/\-(Bub)<Jb)(o:sd):Cg (n+16) 38 [Bwh,Bwg,All,AT A]=JL [Cn,Cfh (Coa t x)]:=by
 let P:=jh;rw[Wu,N];let j:=mQ;let b:=Dfr;rw[Tj,z,V,_,g,fk S m o lt (n+5-lt) q JR saj d tn [Bpa,EZ q b]];rw[FZ (n+5-lt+lt+10=n+15)]at V;let g:=g K R H;rw[Td,s,z=0]
 ·let T:Jb=0:=by let G:=g.zero.mp s;grind[bV,bW]
  rw[aks v O T,rV,Ap];rw[VQ,seW,V,Bx s];rfl
 ·let za:=akt g;let e:=fj m (n+14) z JR o (mR Bvm d tn za Ac);rw[Tq,Z,AG Cge=2^lt]
  let n1:C_ lt Cge<=2^q:=by rw[cj W z d];let:GD*C_ lt JR<=1*C_ lt JR:=EZ _ (by simpa using za);omega
  obtain⟨a,l0,I,M,hp,r⟩:∃(a:K)(l0:Bool),l0=Bl z 0/\Jb=([Gz,l0=Aa,-a,a])/\0<a/\GP lt Cge=a*LB:=by
   rw[ci R z d,Y];rcases g with⟨rfl,h⟩|⟨rfl,h⟩|⟨rfl,h⟩
   ·show⟨Jb,Af,Ab,Ab,?_,DR ah⟩;rw[Tg,Y];rcases gn (a:=Jb)with p|p|p;·show p
    ·rw[T',Ag,(bW h)]
    ·let:=af (Bpi (0< -Jb)) dp;grind
   ·rw[T',Ab,s]
   ·show⟨-Jb,Aa,Ab,?_,?_,Cvr aq ah⟩;·rw[Vm,tF];grind
    ·rw[Tg,Y];rcases gn (a:=Jb)with p|p|p;·let:=af p dp;grind
     ·rw[Tg,p];rw[T',Ag,(bW h)]
     ·grind
  let Q:sfl K sq W w R q lt Cge ld dv:=⟨S,H,U,f,y,B,saj,sak,Z,l,n1,i,Cb r (af hp dp),dp⟩;rw[Tj,u,c,L,C,akn m n hm Q o];let e1:QD UB=Aep:=bQ _;let G:Ack u<=a*Aep:=by let:=C.low;rw[r,e1,bQ]at this;rw[<-bo dp];grind
  let h2:a*Aax (2^FL)<Cst (u+1):=by let:=C.sfn;rw[r,e1,Bca ((KC+1)=Ay (u+1)),bQ]at this;rw[<-cJ dp];grind
  let F:c=Aa↔Ack u<a*Aep:=by
   rw[C.more,r,e1,bQ];rw[TH];·rw[UH];rw[<-cJ dp];grind
   ·rw[UH];let:=Hg (cJ dp) h;grind
  let X:a<Bub:=by cases l0 with|true=>rw[Yo,M];grind|false=>rw[Vz,um,tO,M];grind
  let RB:=ajz v O M hp X G h2 F A;let rr:=akr m (n+13) u A c l0 o (8*q+UB+1) C.small Ac;rw[RB,rV,Ap];simp only[seW,csAll,V,B_ s,e,L,c0,c1,<-I,rr]
end
def nN(W:Ak)(x:Ao):Aw:=C_ Dfs x
def vV{K:Bq}[Dw](R:Ct)(x:Ao):K:=GP Dfs x
def sfo(g:JP)(x:Ao):Al:=∃l,l<=Abk/\AD=2^l
def aw(h:AD=2^l):FQ=KR:=by grind[nN,Nat.log2_two_pow]
def aB{K:Bq}[Dw]{R:Ct}{x:Ao}{l:Nat}(h:AD=2^l):Jq=Abp:=Acr vV h sjz
def WB:Aw:=Bfh
section
variable{sq:List (List Int)}{W:List Nat}
def fv(z:Int):Aqw [z]:=Atz 0 AE
def c8(z:Int):AI [z]=GD:=Ch
def fw{K:Bq}[Dw]{R:Ct}(z:Int):BQ [z]=sk z:=DY (aB (l:=0) Ab)
def jj(S:Ho<=3)(h:Aaq):AD<=8:=by rw[Ut,l,G,z];grind[dE]
def dH(S:Aca WB)(m n:Nat)(o:sd)(O:Aaq)(Q:Aqw y)(Y:FQ<=2^p)(Z:AI y<=2^q)(T:p+q<=Alp):∃z,Cg (n+7) 29 [Fq,Ajh,All]=Ou z/\Aqw z/\AI z<=FQ*AI y/\Rv (RY->BQ z=Jq*BQ y):=by rw[WT,i,h];rw[WX,X,F,A];rw[Ud,aw h,Y];rw[Ud,aw A,Z];rw[Te,z,B,M,jb S m o n i X p q x y G F h A Y Z [Chd,WB,tr]];rw[TU,z,B,Am [Ik,i,X] AE Bwd,Dfv (aw Bwd),BV K _ R H];rw[aB Bwd,aB h,aB A];show M.val K R H
def jk(S:Aca WB)(m n:Nat)(o:sd)(O:Aaq)(Y:FQ<=2^p)(T:p+p<=Alp):∃z,Fa 8 30 Fq All=Ou z/\Aqw z/\AI z<=FQ*FQ/\Rv (RY->BQ z=Jq*Jq):=by rw[WT,i,h];rw[Ud,aw h,Y];rw[Te,z,B,M,gA S m _ n _ p x G h Y (by grind[WB,tr])];rw[TU,z,B,HV AE Bwd,Dfv (aw Bwd),BV K _ R H];rw[aB Bwd,aB h];show M.val K R H
def akv(S:Ho<=3)(m n:Nat)(o:sd)(O:Aaq)(Q:Aqw y):∃z,Fa 2 26 Fq Ajh=Ou z/\Aqw z/\AI z<=FQ+AI y/\Rv (BQ z=Jq+BQ y):=by
 let A:=jj S O;let a:=jj S Q;rw[WT,i,H];rw[WX,X,F,h];let V:=dS H h;show[Ath,u9 x y,iY m n x y o Ac Ac,Am [Ik,i,X] AE V,Bz K _ R];·rw[aw V,aw H,aw h];show dW W H h
 ·rw[aB V,aB H,aB h];show dU R H h
def bB(J:Bhv 1)(m n:Nat)(o:sd)(z:Int)(O:Aaq)(h:GD<=2^e)(Y:FQ<=2^p)(T:e+p<=Alp):∃y,Fa 1 27 Aeq Fq=Ou y/\Aqw y/\AI y=GD*FQ/\Rv (BQ y=sk z*Jq):=by
 rw[WT,i,H];rw[Ud,aw H,Y];rw[Tq,Z,AG Cqv=2^i]
 show[Ath,_,fj m n z x _ (λy Q=>c6 h (EI (dD J H y Q) Y) Bye),HV G Z,Bz K _ R];·rw[aw Z];grind[cj]
 ·rw[aB Z,aB H];grind[ci]
def jm(e:Ho<=3)(J:Bhv 1)(m n:Nat)(o:sd)(O:Aaq)(Q:Aqw y)(Y:AI y<=2^p)(T:p<=Alp):∃z,Fa 3 28 Fq Ajh=Ou z/\Aqw z/\AI z<=FQ+AI y/\Rv (BQ z=Jq-BQ y):=by
 let A:=jj e O;let a:=jj e Q;rw[WT,i,h];rw[WX,X,F,H];rw[aw H]at Y;let Z:AG Cfs=2^X:=by rw[sr];show H
 let V:=dS h Z;show[Ath,u9 x Cfs,mG m n x y o Ac Ac (AV z B),Am [Ik,i,X] AE V,Bz K _ R];·unfold uE;show EI (cN (EI (dD J H z B) Y)) Cax
 ·rw[aw V,aw h,aw H];let:=dW W h Z;rw[Tt,cj W Hj H];rw[VO]
 ·rw[aB V,aB h,aB H,dU R h Z,ci R Hj H,aq,ah];grind
def aaW(S:Aca WB)(m n:Nat)(o:sd)(O:Aaq)(Y:FQ<=2^p)(T:p<=Alp):∃z:Int,Fa 13 32 Fq All=JL z/\Rv (RY->Sg z (Jq)):=by rw[Wu,N];rw[WT,l,H];rw[aw H]at Y;rw[Tj,z,B,_,h,fk S m o l (n+3-l) p x G H Y (by let:=EZ p (dE (l:=l) Ac);grind[WB,tr])];grind[aB]
def akw{K:Bq}[Dw]{R:Ct}(S:Aca WB)(H:RY){x:Ao}(O:Aaq)(h:0<Jq):1<=FQ:=by
 rw[WT,l,z];rw[aw z];rw[Tg,aB z];let:=(mN (H.le S) G z).1;let F:=sad h this;let A:CA 0<Aob KR:=by rw[aH];show F
 let:=bP.mp A;omega
def ul(W:Ak)(M:Nat):Aw->JP->Aw|_,[]=>1|k,x::r=>Cv Blv FQ 1*ul W M (k+1) r
def t6(W:Ak)(M:Nat):Aw->JP->Aw|_,[]=>1|k,x::r=>Cv Blv 1 FQ*t6 W M (k+1) r
def uK(W:Ak):JP->Aw|[]=>1|x::r=>FQ*uK W r
def tE{K:Bq}[Dw](R:Ct)(M:Nat):Aw->JP->K|_,[]=>1|k,x::r=>Cv Blv Jq 1*tE R M (k+1) r
def jn(M:Nat):Aaz (ul W M k l*t6 W M k l=uK W l)|_,[]=>rfl|k,x::r=>by unfold ul t6 uK;let:=jn M (k+1) r;grind
def jo(M:Nat):Aaz ((Amt (1<=FQ))->1<=t6 W M k l)|_,[],_=>Ach|k,x::r,h=>by unfold t6;let G:=jo M (k+1) r λy Q=>h y (MA Q);let z:=h x zB;show Nat.mul_pos ?_ G;split<;>omega
def jp(M:Nat):Aaz ((Amt (1<=FQ))->1<=ul W M k l)|_,[],_=>Ach|k,x::r,h=>by show Nat.mul_pos ?_ (jp M (k+1) r λy Q=>h y Ag);grind
def fx(M:Nat)(h:Amt (1<=FQ)):ul W M k l<=uK W l:=[Bzj,jn (W:=W) M k l,Bbc (jo M k l h)]
def aaX(P:∀i,Bbr i=Aa->Apy i=Aa):Aaz (ul W (M^^^s) k l*t6 W M k l=t6 W s k l)|_,[]=>rfl|k,x::r=>by unfold ul t6;let d:=aaX P (k+1) r;grind
def aaY{K:Bq}[Dw]{R:Ct}{s M:Nat}(P:∀i,Bbr i=Aa->Apy i=Aa):Aaz (tE R (M^^^s) k l*tE R s k l=tE R M k l)
|_,[]=>Cfz tE
|k,x::r=>by
 unfold tE;let d:=aaY (R:=R) P (k+1) r;let h:=P k;rw[Nat.testBit_xor];cases e:Blv<;>cases N:Bbr k;·rw[Wv,Bool.xor_self];rw[<-d];grind
 ·rw[Tg,e];rw[Ug,h N,AN]
 ·rw[Vs,Bool.xor_false,tF,um,tO];rw[<-d];grind
 ·rw[Vs,Bool.xor_self,um,tO,tF];rw[<-d];grind
def fA{K:Bq}[Dw]{R:Ct}(M:Nat):Aaz ((Amt (0<Jq))->0<tE R M k l)|_,[],_=>one_pos|k,x::r,h=>by unfold tE;let G:=fA M (k+1) r λy Q=>h y Ag;grind[af]
def akx(h:Amt (1<=FQ)):Amt (FQ<=uK W l):=by
 induction l with
 |nil=>intro x O;cases O
 |cons y r d=>
  intro x O;let w:1<=uK W r:=by let:=jp (W:=W) 0 0 r λz B=>h z (MA B);let H:=fx (W:=W) 0 (k:=0) (l:=r) λz B=>h z (MA B);omega
  unfold uK;rcases FI O with rfl|O;·show Bbc w
  ·let:=d (λz B=>h z (MA B)) x O;show GN this (sdK _ (h y zB))
def aaZ(M:Nat)(x:Ao):Aaz (ul W M k (l++[x])=ul W M k l*(Avo [Apy,(k+Ah)] FQ 1))|k,[]=>CO ul|k,y::r=>by simp[sdN,ul,aaZ M x _ r,we,sT,Bbm (k+1+Ic=k+(Ic+1))]
def aa_(M:Nat)(x:Ao):Aaz (t6 W M k (l++[x])=t6 W M k l*(Avo [Apy,(k+Ah)] 1 FQ))|k,[]=>CO t6|k,y::r=>by rw[UC,sdN,t6];rw[aa_ M x (k+1) r,we,sT,Bbm (k+1+Ic=k+(Ic+1))]
def aa0(x:Ao):∀(l:JP),uK W (l++[x])=uK W l*FQ|[]=>CO uK|y::r=>by simp[sdN,uK,aa0 x r,we]
def mS{K:Bq}[Dw]{R:Ct}(M:Nat)(x:Ao):Aaz (tE R M k (l++[x])=tE R M k l*(Avo [Apy,(k+Ah)] Jq 1))|k,[]=>by rw[Vs,sfp,tE,sdk,scp];grind|k,y::r=>by rw[UC,sdN,tE];rw[mS M x (k+1) r,sT,Bbm (k+1+Ic=k+(Ic+1))];grind
def aa1:Aaz ((∀i,i<k+Ah->Apy i=j.testBit i)->t6 W M k l=t6 W j k l)|_,[],_=>rfl|k,x::r,h=>[Acr,t6,h k AN,aa1 _ r [Jl,V,h i Ag]]
def aa2{K:Bq}[Dw]{R:Ct}{M j:Nat}:Aaz ((∀i,i<k+Ah->Apy i=j.testBit i)->tE R M k l=tE R j k l)|_,[],_=>rfl|k,x::r,h=>[Acr,tE,h k AN,aa2 (k+1) r [Jl,V,h i (by simp at V|-;omega)]]
end
structure ve where
 x:Ao
 y:Ao
 mask:Aw
structure sH where
 ur:Eg ve
 xL:JP
 sq:JP
 bits:Ak
def xb(s:ve):D:=Ll 1 [tI s.x,tI s.y,AT JB]
def ut(b:Ak):D:=HJ (b.map Avy)
def tJ(f:sH):D:=Ll 2 [Dq Byh,Dq Byl,Cel,Bvb]
def xM(o:ve)(Y T:Ao):D:=Ll 3 [xb o,tI Y,tI T]
def xN(g:Ao)(o:ve)(Y T u:Ao):D:=Ll 4 [tI g,xM o Y T,tI u]
section
variable{st:sd}{s:ve}{f:sH}
def mT:GL Atd=Aa:=rfl
def gG:GL IF=Aa:=rfl
def aky:GL (xM s Y T)=Aa:=rfl
def mU:GL (ut b)=Aa:=rfl
def akz:Adu Atd=Ce Atd:=iR
def dX:Adu IF=Ce IF:=iR
def akA:Adu (xM s Y T)=Ce (xM s Y T):=iR
def akB:Adu (xN q s Y T u)=Ce (xN q s Y T u):=iR
def dY:ON 1 (Atd) (FF 0)=GR s.x:=rfl
def dZ:ON 1 (Atd) (FF 1)=GR s.y:=rfl
def dI:ON 1 (Atd) (FF 2)=Cd JB:=rfl
def fB:ON 2 (IF) (FF 0)=Aia Byh:=rfl
def mV:ON 2 (IF) (FF 1)=Aia Byl:=rfl
def bS:ON 2 (IF) (FF 2)=As Cel:=rfl
def gH:ON 2 (IF) (FF 3)=As Bvb:=rfl
def jq:ON 3 (xM s Y T) (FF 0)=As Atd:=rfl
def mW:ON 3 (xM s Y T) (FF 1)=GR Y:=rfl
def mX:ON 3 (xM s Y T) (FF 2)=GR T:=rfl
def gI:ON 4 (xN q s Y T u) (FF 0)=GR q:=rfl
def aa3:ON 4 (xN q s Y T u) (FF 1)=As (xM s Y T):=rfl
def gJ:ON 4 (xN q s Y T u) (FF 2)=GR u:=rfl
def fC{k:Nat}:D.obj 1 [Fq,Ajh,LM]=xb [Am,x,y,k]:=rfl
def aa4:D.obj 3 [Atd,tI Y,tI T]=xM s Y T:=rfl
def akC:D.obj 4 [tI q,xM s Y T,tI u]=xN q s Y T u:=rfl
def jr:Bgv [Aeq]=tI [z]:=rfl
def js{k:Nat}(h:Aqm k=G_):Rs [DK,Byh] (LM)=Ce Atd:=by rw[aat,mx,tD,h];rfl
end
structure vz(f:sH)(W:Ak)(g:Nat):Al where
 so:sa7 IA W WB
 wl:OM=CZ
 gm:g<=Axu
 fl:f.xL.length=AU
 sdO:AU<=Cc
 num:Bqy [FE,x]
 one:Bqy (1<=FQ)
 xf:uK W DS<=2^g
 sx:∀s∈f.ur,FE s.x/\FE s.y
 sn:∀s∈f.ur,AI s.x*Ain<=2^g/\AI s.y*Ain<=2^g
 mlt:∀s∈f.ur,JB<2^AU
 wt:Bhu (2^Bfh)
def mY(M k:Nat):AQ [Ay,M/2^k&&&1] 1=Blv:=Aq
section
variable{f:sH}{W:List Nat}{g:Nat}
def vz.akD(F:Kc):Bqy (FQ<=2^g):=λx O=>EI (akx Asw x O) F.xf
def aa5(W:Ak)(M:Nat){l:JP}(h:CS=Bi):ul W M 0 (Bun (k+1))=ul W M 0 NE*Cv Blv FQ 1:=by
 let Z:=Abh;rw[Wl,e,Bun (k+1),Apr++[x],scq,h]
 rw[e,aaZ,ug,sfq Ac,sal]
def aa6{K:Bq}[Dw](R:Ct)(M:Nat){l:JP}{k:Nat}{x:Ao}(h:CS=Bi):tE R M 0 (Bun (k+1))=tE R M 0 NE*Cv Blv Jq 1:=by
 let Z:=Abh;rw[Wl,e,Bun (k+1),Apr++[x],scq,h]
 rw[e,mS,ug,sfq Ac,sal]
def akE(M:Nat)(F:Kc)(k:Nat):ul W M 0 (Chw)<=ul W M 0 DS:=by
 let:∀(l Y:Afi)(j:Nat),(∀x∈Y,1<=FQ)->ul W M j l<=ul W M j (l++Y):=by intro l;induction l with|nil=>intro Y j h;show jp M j _ h|cons y r d=>intro Y j h;show Atj (d _ _ h)
 let h:=this (Chw) (f.xL.drop k) 0 λx O=>F.one x Ag;simp_all
def jt(F:Kc)(m n:Nat)(o:sd)(M:Nat):∃p,Fa 8 39 IF [AT,M]=Ou p/\FE p/\AI p<=ul W M 0 DS/\Rv (xH R IA->BQ p=Apg):=by
 let w:=F.gm;rw[Tx,P,∀M,ul W M 0 _<=2^g,M,EI (fx M Asw) F.xf];let L:=aaE (cl:=Bb (n+7)) (m:=m) (i:=3) (j:=4) (it:=Qd (NX 2 1)) (b:=Bvi (Oq [Sn,Bvl,(Bdg AL EL),Fe] Fe) [F_,2,Aaw Bj Dg Ayf]) (items:=vN 0 (Byl)) (λk A V=>V=o/\∃(p:Ao)(O a:LI),A=[Bmz,Dv M,GR p,O,a]/\FE p/\AI p<=ul W M 0 (Chw)/\Rv (xH R IA->BQ p=tE R M 0 (Chw))) Em (by simp[sN.size,tP,uS,dR]) (by rintro k A V⟨rfl,_⟩;show Bva (gz Ab)) (by
  rintro k x y A V Z⟨rfl,p,O,a,rfl,v,d,l⟩;rw[gy,sal,tD]at Z;cases e:f.xL[k]? with
  |none=>grind
  |some c=>
   rw[e]at Z;cases Z;let G:=tV e;let r:=sba d (sba (akE M F k) (P M));obtain⟨z,B,u,b,h⟩:=dH F.so m n V v (F.num c G) r (F.akD c G) (by omega);let N:decide (0<=(k:Int))=true:=sdP (by omega);let C:ym (·&&&·) V ((M/2^k:Nat)) 1=.ok (.int ((M/2^k&&&1:Nat))) V:=by rfl
   cases T:M.testBit k with
   |true=>
    show⟨[some (tJ f),some (.int M),some (tI z),some (.int k),some (tI c)],V,?_,rfl,z,_,_,rfl,u,?_,λK _ R H=>?_⟩;·simp only[csAll,N,sP,ji,C,mY,T,bS,B]
    ·rw[aa5 W M e,T];show sba b (shN _ d)
    ·rw[aa6 R M e,T,h K R H,l K R H];rfl
   |false=>
    show⟨[some (tJ f),some (.int M),some (tI p),some (.int k),some (tI c)],V,?_,rfl,p,_,_,rfl,v,?_,λK _ R H=>?_⟩;·simp only[csAll,N,sP,ji,C,mY,T]
    ·rw[aa5 W M e,T];simpa using d
    ·rw[aa6 R M e];grind) [DB,Ab,[1],Ad,Ad,Ab,fv 1,by rw[c8];simp[ul],λK _ R _=>Agj fw ah];obtain⟨U,V,I,rfl,p,O,a,rfl,v,d,l⟩:=L;rw[dR,sr,yt]at d l;show⟨p,?_,v,d,l⟩;rw[ah4,Ap];rw[UA,shc,jr,I,c5]
def aa7(F:Kc)(m n:Nat)(A:sd)(P:s∈f.ur){M:Nat}(U:∀i,s.mask.testBit i=Aa->Apy i=Aa):∃o:ve,NU (n+9) 40 [IF,Atd,AT M] A=JI (xb o) A/\GQ=M/\FE Nr/\FE Nt/\Bwr*NO<=2^g/\Bws*NO<=2^g/\Rv (xH R IA->Bwb*Bga=BQ s.x*Apg/\Bwc*Bga=BQ s.y*Apg):=by
 let w:=F.gm;rw[Tk,p,Y,v,d,l,jt F m n A (M^^^JB)];let k:ym Cuj A M JB=JI [Ec,(M^^^JB)] A:=Ch
 let G:=GN d [EI,fx _ Asw,F.xf];rw[Tc,h,L,Axd P];rw[Tc,c,j,Bvc P];let I:=jo JB 0 _ Asw;rw[Tk,x,O,N,B,X,dH F.so m (n+1) A h v (NR I c) G Ac];rw[Tk,y,Q,e,q,u,dH F.so m (n+1) A L v (NR I j) G Ac];let C:∀{a b:Nat},a<=b*AI p->b*Ain<=2^g->a*NO<=2^g:=λ{a b}J z=>by let T:a*t6 W M 0 _<=b*ul ..*NO:=EZ _ (GN J [Atj,d]);rw[we,(aaX (W:=W) U 0 DS)]at T;omega
 show⟨Am x y M,?_,Ab,N,e,C B c,C q j,BV K _ R H⟩;·rw[ah5,Ap];simp only[shd,csAll,dI,k,Y,dY,dZ,bS,O,Q,dC,fC,akz]
 ·grind[aaY]
structure slt(f:sH)(W:Ak)(g:Nat)(s t:ve)(M:Nat)(o:ve)(dx dy:Ao):Al where
 om:GQ=M
 n1:FE Nr
 n2:FE Nt
 n3:FE dx
 n4:FE dy
 b1:Bwr*NO<=2^g
 b2:Bws*NO<=2^g
 b3:AI dx*NO<=2^(g+1)
 b4:AI dy*NO<=2^(g+1)
 val:Rv (xH R IA->(Bqy (0<Jq))->∀(sx sy tx ty:K),BQ s.x=Bga*sx->BQ s.y=Bga*sy->BQ t.x=PJ Boi*tx->BQ t.y=PJ Boi*ty->Bwb=Apg*sx/\Bwc=Apg*sy/\BQ dx=Apg*(tx-sx)/\BQ dy=Apg*(ty-sy))
def aa8(F:Kc)(m n:Nat)(st:sd){p q:Nat}(P:Aqm p=G_)(I:Aqm q=Ae t):∃(o:ve)(Y T:Ao),IM (n+10) 41 [IF,HB,Amx]=Ce (xM o Y T)/\slt f W g s t Rw o Y T:=by
 let w:=F.gm;rw[Xl];obtain⟨o,Z,a,n1,J,r,v,x⟩:=aa7 F m n st (tV P) (M:=Bxy) (Abw Aq);obtain⟨e,he,em,n3,n4,b3,d,U⟩:=aa7 F m n st (tV I) (M:=Bxy) (Abw Aq);let M:=Bpe Rw 0 DS F;let c1:Bwr<=2^g:=NR M r;let c2:Bws<=2^g:=NR M v;rw[Tk,Y,hx,nx,l,vx,jm Awh Aeb m (n+6) st n3 n1 c1 Ac];rw[Tk,T,Q,L,b,u,jm Awh Aeb m (n+6) st n4 J c2 Ac];let k:[Cip,st,Au JB,Au Boi]=Bkx [Cn,Bxy]:=Ch
 show⟨o,Y,T,?_,a,n1,J,nx,L,r,v,?_,?_,λK _ R H A c j y ty G z h3 h4=>?_⟩;·rw[ah6,Ap];simp only[she,csAll,fB,js P,js I,dI,k,Z,he,dY,dZ,hx,Q,dC,mT,aa4,akA]
 ·let:=EZ (Bng) l;rw[Tt,sag];omega
 ·let:=EZ (Bng) b;rw[Tt,sag];omega
 ·rw[Tc,X,a2,x K R H];rw[Tc,a3,a4,U K R H];let O:=fA (R:=R) JB 0 DS A;let V:=fA (R:=R) Boi 0 DS A;rw[Yv,e1,Bwb,PJ Rw*c,eZ O,X,G]
  rw[Yv,N,Bwc,PJ Rw*j,eZ O,a2,z]
  rw[Yv,e3,BQ e.x,PJ Rw*y,eZ V,a3,h3]
  rw[Yv,B,BQ e.y,PJ Rw*ty,eZ V,a4,h4]
  show Cjr e1 N;·grind
  ·grind
end
def akF(h:M<2^N):M|||2^N<2^(N+1):=shO Ag Ac
def aa9(h:M<2^N):Apy N=Af:=Nat.testBit_lt_two_pow h
def aba:(M|||2^N).testBit N=Aa:=Aq
def abb(h:i<N):(M|||2^N).testBit i=Apy i:=Aq
def sH.add(f:sH)(x y:Ao)(M:Nat)(u:Ao):sH:=[AO,f.ur++[Am x y (M|||2^AU)],DS++[u],IA,Gb]
section
variable{f:sH}{W:List Nat}{g:Nat}
theorem vz.add(F:Kc)(J:A<=Axu)(T:AU<Cc)(h:FE x)(L:FE y)(N:FE u)(K:1<=AI u)(n:M<2^AU)(G:2^g*AI u<=2^A)(H:FQ*NO<=2^A)(I:AI y*NO<=2^A):vz (Biy x y M) W A:=by
 let C:=F.fl;show⟨F.so,F.wl,J,?_,?_,?_,?_,?_,?_,?_,?_,F.wt⟩;·simp[sH.add,C]
 ·grind[sH.add]
 ·intro z B;rw[YJ,B];·show F.num z B
  ·rw[PC B];show N
 ·intro z B;rw[YJ,B];·show F.one z B
  ·grind
 ·change uK W (DS++[u])<=_;rw[aa0];show EI [EZ,_,F.xf] G
 ·intro s P;rw[YK,P];·show Axd P
  ·rw[PC P];rw[Th,h,L]
 ·intro s P;change AI _*t6 W _ 0 (DS++[u])<=_/\AI _*t6 W _ 0 (DS++[u])<=_;rw[aa_,sal,C];rw[YK,P];·rw[aa9 (Bsx P)];rw[Tc,a,b,Bvc P];simp only[<-we];rw[Th,EI [EZ,_,a] G,EI [EZ,_,b] G]
  ·rw[PC P];let e:t6 W (M|||2^AU) 0 _=t6 W M 0 _:=aa1 0 DS [Jl,V,abb Ac];rw[Vs,aba,tF,Nat.mul_one,e];rw[Th,H,I]
 ·intro s P;change JB<2^HA f.ur [_];rw[su,s0];rw[YK,P];·let:=Bsx P;omega
  ·rw[PC P];show akF n
def akG:D.obj 2 [Dq Byh,Dq Byl,Cel,Bvb]=IF:=rfl
def gK(F:Kc)(m n:Nat)(o:sd)(x y:Ao)(M:Nat)(u:Ao):Cg (n+1) 42 [IF,xb [Am,x,y,M],tI u]=BN (tJ (Biy x y M)):=by
 let sdO:=F.sdO;let i:=F.fl;let G:t_ 1 AU=Aa:=ck (p:=0) AN Bye;rw[Tq,e,(1)*2^Ahj AU=Ay (2^AU)]
 let k:Cip o M (Cn (2^AU))=JL (Cn (M|||2^AU)):=Ch
 let R:Byh++[xb [Am,x,y,M|||2^AU]]=(Biy x y M).ur.map xb:=Bql
 let P:Byl++[tI u]=(Biy x y M).xL.map tI:=Bql
 rw[Ti,O,Cel=uJ (Biy x y M).sq];rw[Ti,U,Bvb=ut (Biy x y M).bits];let L:sY AU 1=Aa:=aP Ac;let l:sY f.xL.length 1=Aa:=aP Ac;rw[ah7,Ap];simp only[shf,csAll,dY,dZ,dI,fB,mV,bS,gH,G,e,k,dC,mT,mC,mU,fC,sr,L,l,R,P,O,U,akG,dX]
end
structure vA(f:sH)(K:Bq)[Dw](R rs:Ct)(p:Put):Al where
 ro:xH R IA
 fp:Bqy (0<Jq)
 va:∀(i:Nat)(s:ve),Api=G_->BQ s.x=Bga*Bbe Bir/\BQ s.y=Bga*Bbe Bis
 bx:∀v∈p.pts,-KP (12*AU+10)<=Bbe v.x/\Bbe v.x<=KP (12*AU+10)/\-KP (12*AU+10)<=Bbe v.y/\Bbe v.y<=KP (12*AU+10)
structure t7(f:sH)(p:Put):Al where
 good:sfa FP
 len:Bbd=AU
 pl:∀v∈p.pts,Aqr v=2^MW/\Aqs v=2^MW
 db:Bsf=Km
 va:∀(K:Bq)[Dw](rs:Ct),uI rs FP->∃R,vA f K R rs p
def fD{p:Put}(h:i<Bbd):Cxf∈Aec:=by grind[Put.at_]
def akH{p:Put}(h:i<Bbd):(Cah).at_ i=Cxf:=by unfold Put.at_ Put.more;grind
def akI{p:Put}:(Cah).at_ Bbd=v:=MV Put.at_ Put.more
def d_(V:t7 f p)(h:Api=G_):i<Bbd:=DR V.len
theorem vA.add{f:sH}{W:Ak}{g:Nat}(F:Kc){K:Bq}[Dw]{R J:Ct}{p:Put}(V:vA f K R J p)(U:Bbd=AU){x y:Ao}{M:Nat}{A:Ao}{v:Vec}(n:M<2^AU)(L:0<BQ A)(O:Jq=Apg*BQ A*DE v.x)(Q:BQ y=Apg*BQ A*DE v.y)(T:-KP (12*(AU+1)+10)<=DE v.x/\DE v.x<=KP (12*(AU+1)+10)/\-KP (12*(AU+1)+10)<=DE v.y/\DE v.y<=KP (12*(AU+1)+10)):vA (f.add x y M A) K R J (Cah):=by
 let I:=F.fl;show⟨V.ro,?_,?_,?_⟩
 ·intro z B;rw[YJ,B];·show V.fp z B
  ·grind
 ·intro i s P;change BQ _=tE R _ 0 (DS++[A])*_/\BQ _=tE R _ 0 (DS++[A])*_;rw[mS,sal,I];let C:i<HA f.ur [(Am x y _:ve)]:=(Dj P).1;rw[su,s0]at C;rw[Tv,i<AU]
  ·let l:Api=G_:=by let:(f.ur++[(Am x y _)])[i]?=G_:=P;grind
   rw[aa9 (Bsx (tV l)),akH Ac];rw[Tc,a,b,V.va i s l];rw[TH];·grind
   ·grind
  ·rw[Vr,i=AU]
   let G:=by let:(f.ur++[(Am x y (M|||2^AU))])[AU]?=G_:=P;rw[XP];show this.symm
   subst G;let e:PJ (M|||2^AU)=Apg:=aa2 0 DS [Jl,C,abb Ac];rw[UC,aba,e];rw[<-U,akI];rw[Th,O,Q]
 ·intro u H;let e:Bqr (f.add x y M A)=AU+1:=Bql
  rw[e];rcases Ard (show u∈Aec++[v]from H)with H|H;·rw[Tj,a,b,c,d,V.bx u H];let k:=[Bxr,12*AU+10,12*(AU+1)+10];show Bat<;>grind
  ·rw[PC H];show T
theorem t7.add(V:t7 f p)(O:Aqr v=2^MW/\Aqs v=2^MW)(h:∀(K:Bq)[Dw](R J:Ct),uI J FP->vA f K R J p->vA (f.add x y M A) K R J (Cah)):t7 (f.add x y M A) (Cah):=by
 show⟨V.good,?_,?_,V.db,BV K _ J a⟩;·change HA Aec [v]=HA f.ur [_];rw[su,su,V.len];rfl
 ·intro u F;rcases Ard (show u∈Aec++[v]from F)with F|F;·show V.pl u F
  ·rw[PC F];show O
 ·rw[Tc,R,H,V.va K _ a];rw[Th,R,h K R _ a H]
def gL{K:Bq}[Dw]{z:Int}{k:Nat}(h:GD<=2^k):-KP k<=CA z/\CA z<=KP k:=by rw[KP,<-aq,aL,aL];omega
def akJ(F:Kc)(V:t7 f p)(m n:Nat)(o:sd)(N:Aiw x)(Q:Aiw y)(C:g+25<=Axu)(T:AU<Cc):∃A,Cg (n+2) 43 [IF,AZ x,AZ y]=BN (tJ A)/\vz A W (g+25)/\t7 A (p.more (ofPair FP [Co,x] [Co,y]))/\Bqr A=AU+1/\A.bits=Gb/\A.sq=IA:=by
 let c:=gK F m n o [x] [y] 0 [1];let G:2^(g+25)=2^g*2^25:=sK 2 g 25;let e:=uz AU;show Cut [x] [y] 0 [1] Bql Ab Ab
 ·rw[TW,i,∀z:D,z=Pm->D.obj 1 [tI [x],tI [y],z]=xb [Am,[x],[y],0],z,h,DY h]
  rw[ah8,Ap];rw[UN,shg,jr,dC,i _ Ab,c,dX]
 ·let M:Apx W 0<=2^g:=by
   let:=jn (W:=W) 0 0 DS;let B:=jp (W:=W) 0 0 DS Asw;let L:=F.xf;let:Apx W 0<=uK W DS:=Bzj this (sdK _ B)
   omega
  show F.add C T (fv _) (fv _) (fv _) (by grind[c8]) e ?_ ?_ ?_;·grind[c8]
  ·rw[c8,G,zf (2^g)];show Amr M
  ·rw[c8,G,zf (2^g)];show Amr M
 ·show V.add [Aj,cH,cH] [HF,K,_,R,J,O,H];rw[UX,b,BQ [Apb],1,fw,ah]
  let X:Bee x=sk x:=c_ _ J FP O.len;let u:Bee y=sk y:=c_ _ J FP O.len;let s:PJ 0=1:=by
   let:Aaz (tE R 0 k l=1):=by intro k l;induction l generalizing k with|nil=>rfl|cons a r d=>unfold tE;rw[d,Nat.zero_testBit];grind
   show this 0 DS
  let j:=Bxr 10 (12*(AU+1)+10);let U:=gL (K:=K) (z:=x) (k:=10) Ac;let I:=gL (K:=K) (z:=y) (k:=10) Ac;show Crx F e (by rw[b];show one_pos);·rw[fw,s,b];change _=_*Bee x;grind
  ·rw[fw,s,b];change _=_*Bee y;grind
  ·change _<=Bee x/\Bee x<=_/\_<=Bee y/\Bee y<=_;show Bat<;>grind
def ju(a:Int):0<=a*a:=by
 rw[Tv,0<=a];·show sbb h h
 ·let:=sbb [Ij,0<=-a] [Ij,0<=-a];rw[Tt,Int.neg_mul_neg];rw[TQ]
def auy{K:Bq}[Dw](z:Int):Ack z=sk z:=rfl
def mZ{K:Bq}[Dw]{a b:Int}(T:EW 0):Gx (Co a/NN)*sk b=sk a:=by unfold sk;rw[<-vM];congr 1;let:CV NN:=GG (T (by let:=Rat.intCast_inj.mp (h.trans (show Co 0=Co Ia from rfl));rw[TQ]));grind
def fE(V:t7 f p)(h:Api=G_):Aqr Aun=2^MW/\Aqs Aun=2^MW:=V.pl _ (fD (d_ V h))
def akK(M:Aau<=2^p)(T:AX b<=2^q)(h:p+q<=Alp):tj a b=Aa:=c6 M T Cax
def abc{a:Int}(h:Aau<=k):AX (a*a)<=k*k:=Cb yu [He,h,h]
def akL(F:Kc)(V:t7 f p)(m n:Nat)(o:sd){i r:Nat}(P:Api=G_)(hr:Dm r)(ha:Aau<=99)(T:AX b<=99)(h0:¬(a=0/\b=0))(hg:g+25<=Axu)(F1:AU<Cc):∃A,Cg (n+9) 44 [IF,Aez,RA,tI [a,b]]=BN (tJ A)/\vz A W (g+25)/\t7 A (p.more ((Aun).add (ofPair FP (RV*(Abq).1) (RV*(Abq).2))))/\Bqr A=AU+1/\A.bits=Gb/\A.sq=IA:=by
 rw[Xl];let sm:=tV P;rw[Tc,nx,ny,Axd sm];rw[Tc,bx,H0,Bvc sm];let M:=Bpe JB 0 DS F;let Q0:AI s.x<=2^g:=NR M bx;let X0:AI s.y<=2^g:=NR M H0;rw[Tk,d,j,k,Z,vd,jt F m n o JB];let D0:AI d<=2^g:=GN Z [EI,fx _ Asw,F.xf];let O0:AI d*Ain<=2^g:=by let:=EZ (Ain) Z;rw[Tt,jn];show Li this F.xf
 rw[Ti,K2,Cn 99*99=9801];let qa:=abc ha;let qb:=abc T;let fa:tj a a=Aa:=Ps 7 7 Ac Ac;let fb:tj b b=Aa:=Ps 7 7 Ac Ac;let C1:tj 2 a=Aa:=Ps 1 7 Dc Ac;let q2:AX (2*a*b)<=19602:=by
  rw[yu,yu];let:Int.natAbs 2*Aau<=198:=Cry (2*Aau<=198)
  let:=He this T;omega
 let D1:tj (2*a) b=Aa:=Ps 8 7 Ac Ac;rw[UO,h,a*a,AA];rw[UO,l0,b*b,BB];rw[Wg,sa,0,AA,h,ju _]
 rw[Wg,U,0,BB,l0,ju _]
 let Q1:0<BB+AA:=by
  rw[Td,z1,a=0]
  ·let:EW 0:=Jt (h0 [Aj,z1,z]);let:CV BB:=Jt (by rw[z]at l0;rw[YT,l0]<;>show this z)
   omega
  ·let:CV AA:=Jt (by rw[Tg,z];rw[YT,h]<;>show z1 z)
   omega
 rw[Tk,u,hu,nu,bu,vu,bB Aeb m (n+7) o Aii k (e:=10) (p:=g) NG D0 Ac];rw[wc]at bu;let G0:AI u<=2^(g+10):=by rw[bu,sK,zf (2^g)];show Amr D0
 rw[Tk,x1,J1,U1,U0,C2,bB Aeb m (n+7) o (BB+AA) nx (e:=15) (p:=g) Ac Q0 Ac];rw[Tk,x2,M1,V1,V0,D2,bB Aeb m (n+7) o (BB-AA) nu (e:=15) (p:=g+10) Ac G0 Ac];rw[Tk,y1,N1,Y1,Y0,F2,bB Aeb m (n+7) o (BB+AA) ny (e:=15) (p:=g) Ac X0 Ac];rw[Tk,y2,P1,Z1,Z0,J2,bB Aeb m (n+7) o (2*a*b) nu (e:=15) (p:=g+10) Ac G0 Ac];rw[Tk,x,hx,T1,P0,X,Bbo Awh (n+6) o U1 V1];rw[Tk,y,hy,X1,W0,vy,Bbo Awh (n+6) o Y1 Z1];let sp:=gK F m (n+7) o x y JB [BB+AA];rw[Ti,v,Bhx (tI [a,b])=Cmm];rw[Ti,i1,Ajn (tI [a,b]) Afa=JL b];let mh:=Bsx sm;let t:∀{z z1 l:Ao}{c:Int}{w:Ao},AX c<=19602->AI w*Ain<=2^g->AI z<=Bwq+AI l->Bwq=AX (BB+AA)*AI w->AI l=AX c*AI u->AI z*Ain<=2^(g+25):=by
  intro z z1 l c w L Y h1 h2 h3;let h4:=EZ (Ain) h1;rw[sag,h2,h3,bu]at h4;let h5:AX (BB+AA)*AI w*Ain<=2^15*2^g:=Cb we [Amr,Y]
  let h6:AX c*(r*AI d)*Ain<=19602*GV*2^g:=Cb [Bpv,AX c*(r*AI d)*Ain=AX c*r*(AI d*Ain)] [He,(He L hr),O0]
  let N2:2^(g+25)=2^g*2^25:=sK 2 g 25;rw[TK,2^g,G];omega
 show Cut x y JB [BB+AA] Bql Ab Ab;·rw[ah9,Ap];simp only[shh,csAll,v,i1,fa,fb,h,l0,fB,js P,dI,j,hu,dY,dZ,J1,M1,hx,C1,D1,N1,P1,hy,dC,fC,jr,sp,dX]
 ·show F.add hg F1 T1 X1 (fv _) (Fb c8) mh ?_ (t (c:=BB-AA) Ac bx P0 U0 V0) (t (c:=2*a*b) q2 H0 W0 Y0 Z0);rw[c8,sK];show Atj Ac
 ·rw[Tc,J0,Q,fE V P];rw[Tx,ol,Bnv q (An [Arp,q]=2^MW),q,cH];show V.add [Aj,aD J0 (ol _),aD Q (ol _)] [HF,K,_,R,J,O,H];let lr:=O.len;rw[Tc,sx,sy,H.va i s P];let C0:BQ [BB+AA]=sk (BB+AA):=fw _;let N:EY<sk (BB+AA):=by let:=Hg [Cpr,BB+AA] Q1;rw[Tt,aH];rw[TQ]
  rw[UX,e,Bhq (Arp (RV*(Abq).1)),Aee+DW (RV*(Abq).1),a0 J (by rw[lr];show J0) [Eb,lr,ol _],c_ _ J FP lr]
  rw[UX,I0,Bhr (Arp (RV*(Abq).2)),Aef+DW (RV*(Abq).2),a0 J (by rw[lr];show Q) [Eb,lr,ol _],c_ _ J FP lr]
  let r1:Gx (RV*(Abq).1)*sk (BB+AA)=LY r*sk (BB-AA):=by rw[vM,bQ];unfold heading;rw[TD];rw[h,l0];let:=mZ (K:=K) (a:=BB-AA) (b:=BB+AA) Ac;grind
  let r2:Gx (RV*(Abq).2)*sk (BB+AA)=LY r*sk (2*a*b):=by rw[vM,bQ];unfold heading;rw[TD];rw[h,l0];let:=mZ (K:=K) (a:=2*a*b) (b:=BB+AA) Ac;grind
  show Crx F mh (by rw[C0];show N);·change Jq=_*Bhq (Arp (RV*(Abq).1));rw[e,X K R,C2 K R,D2 K R,vu K R,vd K R H.ro,sx,C0];grind
  ·change BQ y=_*Bhr (Arp (RV*(Abq).2));rw[I0,vy K R,F2 K R,J2 K R,vu K R,vd K R H.ro,sy,C0];grind
  ·rw[Tj,c1,c2,c3,c4,H.bx _ (fD (d_ V P))];let E0:∀{z:K}{c:Int},z*sk (BB+AA)=LY r*sk c->AX c<=AX (BB+AA)->-Asv<=z/\z<=Asv:=by
    intro z c B L;let h1:CA c<=sk (BB+AA):=Bbw;rw[Wg,h2,-CA (BB+AA),sk c,aq,Bbw]
    let r0:EY<=LY r:=cP Ac;let r9:CA Aii<=Asv:=by unfold KP;show Bbw
    let m1:=ae r0 h1;let m2:=ae r0 h2;let m3:=ae (am N) r9;rw[TH];·rw[<-bo N,B];grind
    ·rw[<-bo N,B];grind
   rw[Tc,d1,I,E0 r1 Ac];rw[Tc,d3,d4,E0 r2 (by
    let:(a-b)*(a-b)=AA+BB-2*a*b:=by rw[<-h,<-l0];grind
    let h1:0<=(a-b)*(a-b):=ju _;let:(a+b)*(a+b)=AA+BB+2*a*b:=by rw[<-h,<-l0];grind
    let h2:0<=(a+b)*(a+b):=ju _;omega)];let k1:QD (12*AU+10)+Asv<=KP (12*(AU+1)+10):=by let a1:=Bxr 10 (12*AU+10);let a2:=[Bxr,12*AU+10+1,12*(AU+1)+10];rw[gE,aaN]at a2;grind
   change _<=Bhq (Arp (RV*(Abq).1))/\Bhq (Arp (RV*(Abq).1))<=_/\_<=Bhr (Arp (RV*(Abq).2))/\Bhr (Arp (RV*(Abq).2))<=_;rw[e,I0];show Bat<;>grind
def akM{K:Bq}[Dw](q:Rat):Gx q*Bmc q=sk Bfv:=by grind[mZ,Rat,Rat.divInt_eq_div,Rat.num_divInt_den]
def akN(F:Kc)(V:t7 f p)(m n:Nat)(st:sd){i j:Nat}(P:Api=G_)(I:Aqm j=Ae t)(hu:Bsr u)(P0:u.den<=20)(O:Bsr v)(Q0:v.den<=20)(hg:g+25<=Axu)(X1:AU<Cc):∃f',IM (n+11) 45 [IF,Aez,AT j,tI [Bfw,Aes],tI [Bfu,Aer]]=Ce (tJ f')/\vz f' W (g+25)/\t7 f' (p.more ((Aun).add ((scaled u ((Boo).sub Aun)).add (scaled v ((Boo).sub Aun).left))))/\f'.ur.length=AU+1/\Clp=Gb/\f'.sq=IA:=by
 let so:=F.so;rw[Tk,o,Y,T,hw,e,aa8 F m n st P I];let M:=Bpe Rw 0 DS F;let U1:Bwr<=2^g:=NR M e.b1;let V1:Bws<=2^g:=NR M e.b2;let O0:AI Y<=2^(g+1):=NR M e.b3;let c:AI T<=2^(g+1):=NR M e.b4;let du:=u.den_nz;let dv:=v.den_nz;let fc:AX (Aes*Aer)<=400:=by let:=He P0 Q0;omega
 let al:AX (Bfw*Aer)<=19980:=by rw[yu,wc];let:=He hu Q0;omega
 let lf:AX (Bfu*Aes)<=19980:=by rw[yu,wc];let:=He O P0;omega
 let fp:0<Aes*Aer:=Int.mul_pos Ac Ac;let m1:tj Aes Aer=Aa:=Ps 5 5 NG NG;let m2:tj Bfw Aer=Aa:=Ps 10 5 Ac NG;let m3:tj Bfu Aes=Aa:=Ps 10 5 Ac NG;let ku:∀{K:Bq}[Dw],CA (Aes*Aer)*DW u=sk (Bfw*Aer):=by intro K _;let:=Bzw u;rw[ak,ak];grind
 let kv:∀{K:Bq}[Dw],CA (Aes*Aer)*DW v=sk (Bfu*Aes):=by intro K _;let:=Bzw v;rw[ak,ak];grind
 let bu:∀{K:Bq}[Dw],-Asv<=Gx u/\Gx u<=Asv:=by
  intro K _;let h1:=Bzw u;let h2:=gL (K:=K) (z:=u.num) (k:=10) Ac;rw[Wg,b,(1:K),Bmc u,ah,Bbw]
  let k0:=MX 10;let op:=Bay;rw[Tq,k,EY<Bmc u]
  let m:=ae (am k0) b;rw[TH];·rw[<-bo k,h1];grind
  ·rw[<-bo k,h1];grind
 let bv:∀{K:Bq}[Dw],-Asv<=Gx v/\Gx v<=Asv:=by
  intro K _;let h1:=Bzw v;let h2:=gL (K:=K) (z:=v.num) (k:=10) Ac;rw[Wg,b,(1:K),Bmc v,ah,Bbw]
  let k0:=MX 10;let op:=Bay;rw[Tq,k,EY<Bmc v]
  let m:=ae (am k0) b;rw[TH];·rw[<-bo k,h1];grind
  ·rw[<-bo k,h1];grind
 rw[UO,Q2,Aes*Aer,C];rw[UO,F2,Bfw*Aer,A];rw[UO,T2,Bfu*Aes,L];rw[Tk,X,Y1,D3,C1,O3,bB Blh m (n+9) st A e.n3 (e:=15) Ac O0 Ac];rw[Tk,a2,Z1,E3,J0,P3,bB Blh m (n+9) st L e.n4 (e:=15) Ac c Ac];rw[Tk,a3,C2,F3,D1,Q3,bB Blh m (n+9) st A e.n4 (e:=15) Ac c Ac];rw[Tk,a4,D2,G3,F1,T3,bB Blh m (n+9) st L e.n3 (e:=15) Ac O0 Ac];let T1:AI a2<=2^(g+16):=by rw[J0,Bbm (g+16=15+(g+1)),sK];show Amr c
 rw[Tk,Y3,N2,M3,N1,W3,jm Cjg Blh m (n+7) st D3 E3 T1 Ac];rw[Tk,Z3,P2,N3,P1,X3,Bbo Cjg (n+8) st F3 G3];rw[Tk,c1,J2,J3,J1,U3,bB Blh m (n+9) st C e.n1 (e:=15) Ac U1 Ac];rw[Tk,c2,K2,K3,M1,V3,bB Blh m (n+9) st C e.n2 (e:=15) Ac V1 Ac];rw[Tk,x,hx,nx,bx,vx,Bbo Cjg (n+8) st J3 M3];rw[Tk,y,hy,ny,Q1,vy,Bbo Cjg (n+8) st K3 N3];let sp:=gK F m (n+9) st x y Rw [C];let ml:Bxy<2^AU:=shO (Bsx (tV P)) (F.mlt t (tV I));rw[Ti,V2,Rs (tI [Bfw,Aes]) GO=On Bfw];rw[Ti,X2,Rs (tI [Bfw,Aes]) Afa=Bkx u.den];rw[Ti,Y2,Rs (tI [Bfu,Aer]) GO=On Bfu];rw[Ti,Z2,Rs (tI [Bfu,Aer]) Afa=Bkx v.den];let Z0:∀{z z1 l z3 z4 w d1 d2:Ao},AI z<=Bwq+AI l->AI l<=AI z3+AI z4->Bwq=AX C*AI w->AI z3=AX A*AI d1->AI z4=AX L*AI d2->AI w*Bng<=2^g->AI d1*Bng<=2^(g+1)->AI d2*Bng<=2^(g+1)->AI z*Bng<=2^(g+25):=by
  intro z z1 l z3 z4 w d1 d2 h1 h2 h3 h4 h5 h6 h7 Z;let a:=EZ (Bng) (GN h1 (Nat.add_le_add_left h2 _));rw[sag,sag,h3,h4,h5,we,we,we]at a;let k1:=He fc h6;let k2:=He al h7;let k3:=He lf Z;let e1:2^(g+1)=2*2^g:=Fb t5
  let N:2^(g+25)=2^g*2^25:=sK 2 g 25;rw[e1]at k2 k3;rw[TK,2^g,G];omega
 let om:=e.om;show Cut x y Rw [C] Bql Ab Ab;·rw[aia,Ap];simp only[shi,csAll,hw,jq,mW,mX,V2,X2,Y2,Z2,m1,m2,m3,Q2,F2,T2,Y1,Z1,C2,D2,N2,P2,J2,K2,dY,dZ,dI,hx,hy,om,dC,fC,jr,sp,dX]
 ·show F.add hg X1 nx ny (fv _) (Fb c8) ml ?_ (Z0 bx N1 J1 C1 J0 e.b1 e.b3 e.b4) (Z0 Q1 P1 M1 D1 F1 e.b2 e.b4 e.b3);rw[c8,sK];show Atj Ac
 ·rw[Tc,D0,Q,fE V P];rw[Tc,H0,I0,fE V I];let C0:=bI H0 D0;let l0:=bI I0 Q;rw[Tx,d,∀{q:Rat}{z:Num},LH=2^MW->Bdi q z=2^MW,h,by rw[bH];show h]
  show V.add [Aj,aD D0 (aD (d C0) (d (d l0))),aD Q (aD (d l0) (d C0))] [HF,K,_,R,J,U2,H];let lr:=U2.len;rw[Tx,r,∀{z:Num},LH=2^MW->LH=2^BR,h,by rw[lr];show h]
  rw[Tc,sx,sy,H.va i s P];rw[Tc,tx,ty,H.va j t I];rw[Tj,w1,w2,w3,w4,e.val K R H.ro H.fp _ _ _ _ sx sy tx ty];let G0:BQ [C]=sk C:=fw _;let kn:EY<sk C:=by let:=Hg (bP (K:=K) (a:=0) (b:=C)) fp;rw[Tt,aH];rw[TQ]
  let U0:Bhq (Lp (Fh u (Bhl)) (Fh v (Atn (Bhm))))=Aee+DW u*(Anp-Aee)-DW v*(Anq-Aef):=by rw[a0 J (r D0) (r (aD (d C0) (d (d l0)))),a0 J (r (d C0)) (r (d (d l0))),bn _ J (r C0),bn _ J (r (d l0)),bn _ J (r l0),bO J (r H0) (r D0),bO J (r I0) (r Q),eO,uH];grind
  let V0:Bhr (Lp (Fh u (Bhm)) (Fh v (Bhl)))=Aef+DW u*(Anq-Aef)+DW v*(Anp-Aee):=by rw[a0 J (r Q) (r (aD (d l0) (d C0))),a0 J (r (d l0)) (r (d C0)),bn _ J (r l0),bn _ J (r C0),bO J (r H0) (r D0),bO J (r I0) (r Q)];grind
  let W0:=ku (K:=K);let X0:=kv (K:=K);show Crx F ml (by rw[G0];show kn);·change Jq=_*Bhq (Lp (Fh u (Bhl)) (Fh v (Atn (Bhm))));rw[U0,vx K R,U3 K R,W3 K R,O3 K R,P3 K R,w1,w3,w4,G0,<-W0,<-X0];grind
  ·change BQ y=_*Bhr (Lp (Fh u (Bhm)) (Fh v (Bhl)));rw[V0,vy K R,V3 K R,X3 K R,Q3 K R,T3 K R,w2,w3,w4,G0,<-W0,<-X0];grind
  ·change _<=Bhq (Lp (Fh u (Bhl)) (Fh v (Atn (Bhm))))/\Bhq (Lp (Fh u (Bhl)) (Fh v (Atn (Bhm))))<=_/\_<=Bhr (Lp (Fh u (Bhm)) (Fh v (Bhl)))/\Bhr (Lp (Fh u (Bhm)) (Fh v (Bhl)))<=_;rw[U0,V0];rw[Tj,c1,c2,c3,c4,H.bx _ (fD (d_ V P))];rw[Tj,d1,d2,d3,d4,H.bx _ (fD (d_ V I))];rw[Tc,u1,u2,bu (K:=K)];rw[Tc,v1,v2,bv (K:=K)];let k0:=MX (12*AU+10);let kt:=MX 10;let e1:QD (12*(AU+1)+10)=KP 12*KP (12*AU+10):=by rw[<-gE,Bbm (12*(AU+1)+10=12+(12*AU+10))]
   let C3:QD 12=4096:=by
    let:QD 12=Ajt*Ajt*Ajt*Ajt*Ajt*Ajt*Ajt*Ajt*Ajt*Ajt*Ajt*Ajt:=by simp only[<-gE]
    rw[this,aaN];grind
   let Y0:∀{q:Rat},Bsr q->-GV<=Gx q/\Dm [Gx,q]:=by
    intro q hq;let h1:=Bzw q;let dq:=q.den_nz;rw[Wg,b,(1:K),Bmc q,ah,Bbw]
    let op:=Bay;rw[Tq,k,EY<Bmc q]
    let k9:CA GV=GV:=by
     unfold sk;let:RG n (Ack n=Cn n•(1:K)):=by intro n;induction n with|zero=>rw[Avb [LN,0] 0,cZ];grind|succ n ih=>rw[eY,ih];let:Aax 1=1:=uH;rw[this];grind
     let h:=this GV;rw[show Co (Au GV)=LN GV from rfl,h];grind
    rw[Wg,X,CA Bfv,GV,k9,Bbw]
    let a2:-GV<=CA Bfv:=by rw[<-k9,<-aq];show Bbw
    rw[TH];·rw[<-bo k,h1];grind
    ·rw[<-bo k,h1];grind
   rw[Tc,u1,u2,Y0 hu];rw[Tc,v1,v2,Y0 O];rw[e1,C3];rw[TK,QD (12*AU+10),B];let E0:∀{q z:K},-GV<=q->Dm q->-(2*B)<=z->z<=2*B->-(1998*B)<=q*z/\q*z<=1998*B:=by
    intro q z U q2 z1 l;rw[WS,Bje z];·let X:=ae h q2;let a2:=ae h U;rw[TH]<;>grind
    ·let X:=ae (c:=-z) Ag q2;let a2:=ae (c:=-z) Ag U;rw[TH]<;>grind
   rw[Tc,e1,N,E0 (z:=Anp-Aee) u1 u2 Ag Ag];rw[Tc,e3,e4,E0 (z:=Anq-Aef) u1 u2 Ag Ag];rw[Tc,e5,e6,E0 (z:=Anp-Aee) v1 v2 Ag Ag];rw[Tc,e7,e8,E0 (z:=Anq-Aef) v1 v2 Ag Ag];show Bat<;>grind
structure sjI(f:sH)(W:Ak)(g:Nat)(s t:ve)(c e:Nat)(M:Nat)(q:Ao)(o:ve)(ax ay fc:Ao):Al where
 om:GQ=M
 n1:FE q
 n2:FE Nr
 n3:FE Nt
 n4:FE ax
 n5:FE ay
 n6:FE fc
 b1:AI q<=2^(4*g+43)
 b2:Bwr*NO<=2^(3*g+23)
 b3:Bws*NO<=2^(3*g+23)
 b4:AI ax*NO<=2^(g+1)
 b5:AI ay*NO<=2^(g+1)
 b6:AI fc<=2^(2*g+4)
 val:Rv (xH R IA->(Bqy (0<Jq))->∀(px py qx qy:K),BQ s.x=Bga*px->BQ s.y=Bga*py->BQ t.x=PJ Boi*qx->BQ t.y=PJ Boi*qy->∀(w D' E':K),w=Apg->D'=(qx-px)*(qx-px)+(qy-py)*(qy-py)->E'=D'+Sj c c-Sj e e->BQ q=w*w*(w*w)*(4*Sj c c*D'-E'*E')/\Bwb=w*w*w*(2*D'*px+E'*(qx-px))/\Bwc=w*w*w*(2*D'*py+E'*(qy-py))/\BQ ax=-(w*(qy-py))/\BQ ay=w*(qx-px)/\Bnc=2*(w*w*D'))
def akO(F:Kc)(m n:Nat)(st:sd){i j c e:Nat}(P:Api=G_)(ht:Aqm j=Ae t)(L:Dm c)(he:Dm e):∃(q:Ao)(o:ve)(U ay u:Ao),IM (n+11) 46 [IF,Aez,AT j,AT c,Azx]=Ce (xN q o U ay u)/\sjI f W g s t c e Rw q o U ay u:=by
 rw[Xl];let gm:=F.gm;rw[Tk,o,Y,T,hw,WO,aa8 F m n st P ht];rw[UO,hM,Bxy,M];let mp:=Bpe M 0 DS F;let F2:Bwr<=2^g:=NR mp WO.b1;let J2:Bws<=2^g:=NR mp WO.b2;let I0:AI Y<=2^(g+1):=NR mp WO.b3;let D0:AI T<=2^(g+1):=NR mp WO.b4;rw[Tk,d,hd,nd,Z,vd,jt F m (n+2) st M];let H0:AI d<=2^g:=GN Z [EI,fx _ Asw,F.xf];rw[Tk,un,E3,W0,V1,M4,jk C m (n+2) st nd H0 Ac];let G0:AI un<=2^(2*g):=by rw[FZ (2*g=g+g),sK];show Bns V1 H0 H0
 rw[Tk,x2,G3,X3,X1,N4,jk C m (n+2) st WO.n3 I0 Ac];rw[Tk,y2,J3,Y3,Z1,O4,jk C m (n+2) st WO.n4 D0 Ac];let X0:∀{a b:Nat},a<=b*b->b<=2^(g+1)->a<=2^(2*g+2):=λ{a b}G h2=>Cac [Bbm,2*g+2=(g+1)+(g+1)] sK [Bns,G,h2,h2]
 let V4:=X0 X1 I0;let W4:=X0 Z1 D0;rw[Tk,ga,Y2,Q0,Q4,G4,Bbo Awh (n+8) st X3 Y3];let C0:∀k X:Aw,X=k+1->2^X=2^k+2^k:=λk X h=>Cvt h t5
 let J0:AI ga<=2^(2*g+3):=by let:=C0 (2*g+2) (2*g+3) Ab;omega
 let qc:c*c<=998001:=He L L;let qe:e*e<=998001:=He he he;let mc:tj Gg Gg=Aa:=Ps 10 10 NG NG;let me:tj LG LG=Aa:=Ps 10 10 NG NG;let m4:tj 4 Gg=Aa:=Ps 2 10 Dc NG;let K3:tj (4*Gg) Gg=Aa:=Ps 12 10 Ac NG;let ec:Gg*Gg=Gq c c:=Bkn c c;let ee:LG*LG=Gq e e:=Bkn e e;rw[Yq,B,4*Gg*Gg,4*Gq c c,ec]
 rw[UO,X4,c*c,CC];rw[UO,Y4,e*e,EE];rw[Tk,k1,C3,V3,T1,K4,bB Aeb m (n+9) st (Au CC-Au EE) W0 (e:=20) Ac G0 Ac];let T4:AI k1<=2^(2*g+20):=by rw[T1,sK,zf (2^(2*g))];show Amr G0
 rw[Tk,fo,X2,P0,P4,F4,Bbo Awh (n+8) st Q0 V3];let l0:AI fo<=2^(2*g+21):=by let G:2^(2*g+3)<=2^(2*g+20):=OF;let:=C0 (2*g+20) (2*g+21) Ab;omega
 rw[Tk,gu,Z2,U3,Q1,J4,dH C m (n+3) st Q0 W0 J0 G0 Ac];let V0:AI gu<=2^(4*g+3):=by rw[FZ (4*g+3=(2*g+3)+2*g),sK];show Bns Q1 J0 G0
 rw[Tk,s1,D3,W3,U1,L4,bB Aeb m (n+9) st (4*Au CC) U3 (e:=22) Ac V0 Ac];let U4:AI s1<=2^(4*g+25):=by rw[U1,Bbm (4*g+25=22+(4*g+3)),sK];show Amr V0
 rw[Tk,f2,U2,T3,N1,E4,jk C m (n+2) st P0 l0 Ac];let D2:AI f2<=2^(4*g+42):=by rw[Bbm (4*g+42=(2*g+21)+(2*g+21)),sK];show Bns N1 l0 l0
 rw[Tk,q,hq,nq,bq,vq,jm Awh Aeb m (n+7) st W3 T3 D2 Ac];let cq:AI q<=2^(4*g+43):=by let G:2^(4*g+25)<=2^(4*g+42):=OF;let:=C0 (4*g+42) (4*g+43) Ab;omega
 rw[Tk,u,V2,O0,P1,U0,bB Aeb m (n+9) st 2 Q0 (e:=1) Dc J0 Ac];let E0:AI u<=2^(2*g+4):=by rw[Avb [AX,Rq] 2]at P1;let:=C0 (2*g+3) (2*g+4) Ab;omega
 rw[Tk,a1,K2,M3,C1,Z3,dH C m (n+3) st O0 WO.n1 E0 F2 Ac];rw[Tk,a2,N2,N3,D1,j4,dH C m (n+3) st P0 WO.n3 l0 I0 Ac];rw[Tk,a3,P2,O3,F1,A4,dH C m (n+3) st O0 WO.n2 E0 J2 Ac];rw[Tk,p,Q2,P3,J1,C4,dH C m (n+3) st P0 WO.n4 l0 D0 Ac];rw[Tk,x,hx,nx,bx,vx,Bbo Awh (n+8) st M3 N3];rw[Tk,y,Q,ny,Y1,vy,Bbo Awh (n+8) st O3 P3];rw[Tk,U,T2,Q3,M1,D4,bB Aeb m (n+9) st Hj WO.n4 (e:=0) Dc D0 Ac];let C2:AI U=AI T:=by rw[M1];simp
 let Y0:∀{z z1 l V O:Ao},AI z<=Bwq+AI l->Bwq<=AI u*AI V->AI l<=AI fo*AI O->AI V*NO<=2^g->AI O*NO<=2^(g+1)->AI z*NO<=2^(3*g+23):=by
  intro z z1 l V O G h2 h3 h4 h5;let I:=EZ (NO) (GN G (shI h2 h3));rw[sag,we,we]at I;let k1:=He E0 h4;let k2:=He l0 h5;rw[<-sK]at k1 k2;let e1:2^(2*g+4+g)<=2^(3*g+22):=OF;let N:2^(2*g+21+(g+1))=2^(3*g+22):=by congr 1;omega
  let J:=C0 (3*g+22) (3*g+23) Ab;omega
 show⟨q,Am x y M,U,Y,u,?_,Ab,nq,nx,ny,Q3,WO.n3,O0,cq,Y0 bx C1 D1 WO.b1 WO.b3,Y0 Y1 F1 J1 WO.b2 WO.b4,by rw[C2];show WO.b4,WO.b3,E0,?_⟩;·let om:=WO.om;rw[Ti,n1,-Apb=-1];rw[aib,Ap];simp only[shj,csAll,bS,hw,jq,mW,mX,dI,om,hd,E3,G3,J3,Y2,mc,me,m4,K3,B,ec,ee,C3,X2,Z2,D3,U2,hq,V2,dY,dZ,K2,N2,P2,Q2,hx,Q,n1,T2,dC,mT,aky,fC,aa4,akC,akB]
 ·intro K _ R H A px py qx qy G h2 h3 h4 w D' E' F3 hD r;rw[Tj,V,O,w3,w4,WO.val K R H A px py qx qy G h2 h3 h4];let Z0:=vd K R H;rw[<-F3]at V O w3 w4 Z0;let v:BQ ga=w*w*D':=by rw[G4 K R,N4 K R H,O4 K R H,w3,w4,hD];grind
  rw[UX,vU,BQ un,w*w,M4 K R H,Z0]
  let vF:BQ fo=w*w*E':=by rw[F4 K R,K4 K R,v,vU,eW,r];grind
  let k4:CA (4*Au CC)=4*LY CC:=by rw[ak,show Au 4=2*2 by rfl,ak,eX];grind
  show⟨?_,?_,?_,?_,w3,?_⟩;·rw[vq K R,L4 K R,E4 K R H,J4 K R H,v,vU,vF,k4];grind
  ·change Jq=_;rw[vx K R,Z3 K R H,j4 K R H,U0 K R,v,vF,V,w3,eX];grind
  ·change BQ y=_;rw[vy K R,A4 K R H,C4 K R H,U0 K R,v,vF,O,w4,eX];grind
  ·rw[D4 K R,w4,aq,ah];grind
  ·rw[U0 K R,v,eX]
def jv(h:2^a=2^b):a=b:=by grind[Nat.log2_two_pow]
def gM{J:Bq}{W E:LJ}{d:J}(h:k<OM):Aac (W++E) k d=W.getD k d:=Aq
def akP{E:Ak}:Akt (l<=OM->sV (W++E) l x=KR)|0,x,_=>rfl|l+1,x,h=>Cml sV Ani Ani Cdv
def akQ{K:Bq}[Dw]{R E:Ct}:Akt (l<=Afh->vI (R++E) l x=Abp)|0,x,_=>rfl|l+1,x,h=>Cml vI Bmt Bmt Cdv
section
variable{sq:List (List Int)}{W E:List Nat}
def d5(J:OM=Ho)(h:Aaq):nN (W++E) x=FQ:=by rw[Ut,l,G,z];rw[aw z,aw z,Ani]
def gN{K:Bq}[Dw]{R F:Ct}{x:Ao}(J:Afh=Ho)(h:Aaq):vV (R++F) x=Jq:=by rw[Ut,l,G,z];rw[aB z,aB z,Bmt]
def m_(J:OM=Ho)(M:Nat):Aaz ((Amt Aaq)->t6 (W++E) M k l=t6 W M k l)|_,[],_=>rfl|k,a::l,h=>[Acr,t6,m_ J M _ l λx O=>h x Ag,d5 J Ag]
def abd(J:OM=Ho):∀(l:JP),(Amt Aaq)->uK (W++E) l=uK W l|[],_=>rfl|a::l,h=>[Acr,uK,abd J l λx O=>h x Ag,d5 J Ag]
def m7{K:Bq}[Dw]{R F:Ct}(J:Afh=Ho)(M:Nat):Aaz ((Amt Aaq)->tE (R++F) M k l=tE R M k l)|_,[],_=>rfl|k,a::l,h=>[Acr,tE,m7 J M _ l λx O=>h x Ag,gN J Ag]
def jw(h:Aaq):sfo (sq++[q]) x:=by rw[Ut,l,G,z];rw[Tp,l,Aq,z]
end
def sH.grow(f:sH)(q:Ao)(b:Ak):sH:=AO f.ur DS (IA++[q]) b
def jx{J:Bq}{W:LJ}{w d:J}:Aac (W++[w]) OM d=w:=Aq
theorem vz.grow(F:Kc)(b:Ak)(K:CZ<3)(B:FE q)(G:AI q<=(w-1)*(w-1))(z:AI q<=2^WB)(Y:1<=w)(u:w<=2^Bfh):vz (Cbg b) (W++[w]) g:=by
 rw[Xl];let J:=F.wl;obtain⟨j,o,A⟩:=B;rw[aw A]at G z;rw[Tq,aj,∀(k:Nat)(c:Ao),(IA++[q])[k]?=AW->(k<CZ/\f.sq[k]?=AW)\/(k=CZ/\c=q)]
 rw[Tq,l,Aac (W++[w]) CZ 1=w]
 let H:(w-1)*(w-1)<=w*w:=Bvw;show⟨Bat,?_,F.gm,F.fl,F.sdO,?_,?_,?_,?_,?_,F.mlt,?_⟩;·change HA IA [q]<=3;grind
 ·intro k c h;rw[WN,aj k c h,Z,h,rfl,rfl]
  ·rw[Tk,i,t,d,e,I,C.at_ k c h];show⟨i,t,d,?_,?_⟩;·rw[Ani,Cdv];show e
   ·rw[Ani];show I
  ·show⟨j,o,A,?_,?_⟩;·rw[Ani,l];omega
   ·rw[Ani];show z
 ·intro k c i h L;rw[WN,aj k c h,Z,h,rfl,rfl];·rw[Tj,a,t,d,_,C.at_ k c h];let:i=a:=jv (Cis (2^i=2^a) L d);rw[Ani,Cdv];show C.sfd k c i h L
  ·let:i=j:=jv (Cis (2^i=2^j) L A);rw[VF];rw[Ani,l];show G
 ·intro k;rw[Xv,shM k OM];·rw[gM h];show C.one k
  ·rw[h,jx];show Y
  ·rw[w_,zj [Aqb,su,s0]];show sdQ 1
 ·change HA W [w]=HA IA [q];rw[su,su,J];rfl
 ·showλx O=>jw (F.num x O)
 ·intro x O;rw[d5 J (F.num x O)];show F.one x O
 ·change uK (W++[w]) DS<=_;rw[abd J DS Bms];show F.xf
 ·showλs P=>[Aj,jw (Axd P).1,jw (Axd P).2]
 ·intro s P;change nN (W++[w]) s.x*Apx (W++[w]) JB<=_/\nN (W++[w]) s.y*Apx (W++[w]) JB<=_;rw[m_ J JB 0 DS Bms,d5 J (Axd P).1,d5 J (Axd P).2];show Bvc P
 ·intro k;rw[Xv,shM k OM];·rw[gM h];show F.wt k
  ·rw[h,jx];show u
  ·rw[w_,zj [Aqb,su,s0]];show uz Bfh
section
variable{K:Type}[OK K]
def cm(r:K)(J:Ct)(x:Num):sF (r::J) (JJ x)=Jb:=Acm Lk.lift (eS r _ dz.symm) eR
def cQ(h:AD=2^n):An [JJ,x]=2^(n+1):=by grind[Lk.lift,dz]
def abe(r:K)(J:Ct)(t:Tower)(h:BR=AH):sF (r::J) (Ald)=r:=by grind[newest,eS,dz,cH,eR,c_,uH]
def ng:An Ald=2^(AH+1):=by rw[newest,su,dz,cH];omega
def abf(v:Afm)(q:Aqr P=2^AH/\Aqs P=2^AH)(H:Aqr Q=2^AH/\Aqs Q=2^AH)(a b:Rat):∃z l y,circles t P (Akw t a) Q (Akw t b)=(z,l,y)/\LH=2^AH/\Ah=2^AH/\CK=2^AH/\∀d n:K,d=(DE Q.x-DE P.x)*(DE Q.x-DE P.x)+(DE Q.y-DE P.y)*(DE Q.y-DE P.y)->n=d+DW a-DW b->Aoc=d/\Ajx=n/\DE z=4*DW a*d-n*n:=by
 let g:=v.len;let o:An [Akw,t,a]=2^AH:=cH;let A:An [Akw,t,b]=2^AH:=cH;let Y:Aqr (Arh)=2^AH:=bI H.1 CG;let T:Aqs (Arh)=2^AH:=bI H.2 JU;let I:An (dot _ _ _)=2^AH:=aD (v.aK Y Y) (v.aK T T);let i:=bI (aD I o) A;let m:Bdi 4 (Aqy (dot t (Arh) (Arh)) (Akw t a))=2^AH:=Cb bH (v.aK I o)
 let Z:=bI m (v.aK i i);show DB _ _ _ Ab Z I i [BV,d,n,h,r];let w:Sc (Arh).x=Sc _-Sc _:=bO J Ag Ag;let N:Sc (Arh).y=Sc _-Sc _:=bO J Ag Ag;let B:LL (dot t (Arh) (Arh))=d:=by unfold dot;rw[a0 J [Eb,g,v.aK Y Y] [Eb,g,v.aK T T],aG v Y Y,aG v T T,w,N,h]
 let V:LL [Avu,(Lp (dot t (Arh) (Arh)) (Akw t a)),(Akw t b)]=n:=by simp_all[bO,aD,a0,c_]
 show HS B V;rw[bO J (by rw[g];show m) [Eb,g,v.aK i i],bn _ J [Eb,g,v.aK I o],aG v I o,aG v i i,c_ _ J t g];let U:Gx 4=4:=by
  rw[show Co 4=2*2 by rw[XH],vM];let:Gx 2=2:=Acm (show Co 2=1+1 by rw[XH]) wb uH
  grind
 grind
end
def wf(t:Tower)(b:Eg Vec)(i j:Nat)(Z z y:Num)(R:Bool):Vec:=let u:=Z::t;let l:=Dca;let f:=l.getD i [Ks,[]];let d:=(l.getD j [Ks,[]]).sub f;let h:=[CH,R=Aa,Atn (Ald),Ald];let D:=Fh 2 (JJ z);f.add ((d.scale u (over u (JJ y) D)).add (d.left.scale u (over u h D)))
def nh{b:Eg Vec}(h:i<Aic):Aac Dca i [Ks,[]]=(Azj i).lift:=Aq
section
variable{K:Type}[OK K]
def jy:Gx 2=2:=Acm [Cin,Co 2=1+1] wb uH
def abg:Gx Hj=-1:=by
 let:Gx Hj+DW 1=0:=by rw[<-wb,Cin (Co (-1)+1=0),cZ]
 grind[uH]
def abh{t:Tower}(v:uI (r::J) (z1::t))(hi:i<Aic)(C:j<Aic)(hp:∀p∈b,Aqr p=2^AH/\Aqs p=2^AH)(I:Ah=2^AH)(l3:CK=2^AH)(z:CV Aoc)(R:Bool):Aqr (wf t b i j z1 l y R)=2^(AH+1)/\Aqs (wf t b i j z1 l y R)=2^(AH+1)/\∀x u q a s:K,x=DE (Azj i).x->u=DE (Azj i).y->q=DE (Azj j).x->a=DE (Azj j).y->s=([Gz,R=Aa,-r,r])->∃k:K,k*(2*Aoc)=1/\sF (r::J) (wf t b i j z1 l y R).x=x+(Ajx*k*(q-x)+s*k*(-(a-u)))/\sF (r::J) (wf t b i j z1 l y R).y=u+(Ajx*k*(a-u)+s*k*(q-x)):=by
 let g:=v.len;rw[Tq,B,BR=AH]
 rw[Ti,lU,IV z1 t=AH+1];rw[Tq,c,IV r J=AH+1]
 rw[Tq,U,Azj i∈b]
 rw[Tq,mj,Azj j∈b]
 rw[Tc,i1,i2,hp _ U];rw[Tc,o,A,hp _ mj];unfold wf;rw[TD];rw[nh hi,nh C];rw[TK,Azj i,P];rw[TK,Azj j,Q];let X:P.lift.x.length=2^(AH+1):=cQ i1;let a2:P.lift.y.length=2^(AH+1):=cQ i2;let b1:Q.lift.x.length=2^(AH+1):=cQ o;let b2:Q.lift.y.length=2^(AH+1):=cQ A;let Y:Aqr (Cfy P)=2^(AH+1):=bI b1 X;let T:Aqs (Cfy P)=2^(AH+1):=bI b2 a2;let w:sF (r::J) (Cfy P).x=DE Q.x-DE P.x:=by change sF (r::J) (Avu Q.lift.x P.lift.x)=_;rw[bO _ Ag Ag];change sF (r::J) (JJ Q.x)-sF (r::J) (JJ P.x)=_;grind[cm]
 let N:sF (r::J) (Cfy P).y=DE Q.y-DE P.y:=by change sF (r::J) (Avu Q.lift.y P.lift.y)=_;rw[bO _ Ag Ag];change sF (r::J) (JJ Q.y)-sF (r::J) (JJ P.y)=_;rw[cm,cm]
 rw[TK,Cfy P,d];let lD:Bdi 2 (JJ l)=2^IV z1 t:=by rw[bH,lU];show cQ I
 let vD:sF (r::J) (Fh 2 (JJ l))=2*Aoc:=by rw[bn _ _ [Eb,c,cQ I],cm,jy]
 let nD:CV (sF (r::J) (Fh 2 (JJ l))):=by rw[vD];show(bV [Bfy,jy,rZ FS] z)
 let Z:=gp v lD;let iV:=l_ v lD nD;rw[vD]at iV;rw[TK,Fh 2 (JJ l),f];let W:An [CH,R=Aa,Atn (Ald),Ald]=2^IV z1 t:=by
  rw[Ue];·show ng
  ·change Bdi Hj (Ald)=_;rw[bH];show ng
 let M:sF (r::J) ([CH,R=Aa,Atn (Ald),Ald])=[Gz,R=Aa,-r,r]:=by
  rw[Ue];·show abe r J t B
  ·change sF (r::J) (Atn (Ald))=-r;rw[bn _ _ (by rw[c];show ng),abe r J t B,abg];grind
 rw[XQ,([CH,R=Aa,Atn (Ald),Ald]),H];let O:An (over (z1::t) (JJ y) f)=2^IV z1 t:=v.aK (cQ l3) Z;let G:An (over (z1::t) H f)=2^IV z1 t:=v.aK W Z;rw[XF,l0,sF (r::J) (over (z1::t) (JJ y) f),Ajx*sF (r::J) (Bto (z1::t) f),over,aG v (cQ l3) Z,cm]
 rw[XF,C0,sF (r::J) (over (z1::t) H f),([Gz,R=Aa,-r,r])*sF (r::J) (Bto (z1::t) f),over,aG v W Z,M]
 rw[TK,over (z1::t) (JJ y) f,O1];rw[TK,over (z1::t) H f,O2];let L:Bdi Hj d.y=2^IV z1 t:=by rw[bH];show T
 let V:=v.aK O Y;let m2:=v.aK O T;let m3:=v.aK G L;let F:=v.aK G Y;show[HS,aD X (aD V m3),aD a2 (aD m2 F)];intro x u q a s m h e n hs;show Cjr (sF (r::J) (Bto (z1::t) f)) iV;·change sF (r::J) (Lp P.lift.x (Lp (Lk.mul (z1::t) O1 d.x) (Lk.mul (z1::t) O2 (Atn d.y))))=_;rw[a0 _ (by rw[c];show X) [Eb,c,aD V m3],a0 _ (by rw[c];show V) (by rw[c];show m3),aG v O Y,aG v G L,bn _ _ [Cti,c],l0,C0,w,N,abg];change sF (r::J) (JJ P.x)+_=_;rw[cm,<-m,<-h,<-e,<-n,<-hs];grind
 ·change sF (r::J) (Lp P.lift.y (Lp (Lk.mul (z1::t) O1 d.y) (Lk.mul (z1::t) O2 d.x)))=_;rw[a0 _ (by rw[c];show a2) [Eb,c,aD m2 F],a0 _ (by rw[c];show m2) (by rw[c];show F),aG v O T,aG v G Y,l0,C0,w,N];change sF (r::J) (JJ P.y)+_=_;rw[cm,<-m,<-h,<-e,<-n,<-hs]
end
def sH.wA(f:sH)(b:Ak):sH:=AO f.ur DS IA b
theorem vz.wA(F:Kc)(b:Ak):vz (f.wA b) W g:=⟨F.so,F.wl,F.gm,F.fl,F.sdO,Bms,Asw,F.xf,F.sx,F.sn,F.mlt,F.wt⟩
theorem vz.up(F:Kc)(h:g<=A)(z:A<=Axu):Cos A:=by let e:2^g<=2^A:=Mc h;show⟨F.so,F.wl,z,F.fl,F.sdO,Bms,Asw,Li F.xf e,F.sx,λs P=>[Aj,Li (Bvc P).1 e,Li (Bvc P).2 e],F.mlt,F.wt⟩
def sbc(p:Put)(Z:Num)(e:Bool):Put:=[AO,Z::FP,Cpk,Bsf+1,e]
def akR(h:i<Bbd):(sbc p Z e).at_ i=(Aun).lift:=nh h
section
variable{K:Type}[OK K]{f:sH}{W:List Nat}{g:Nat}{R rs:List K}{p:Put}{r:K}
theorem vA.wA(V:vA f K R rs p)(U:Bbd=AU)(Z:Num)(e:Bool)(b:Ak)(r:K):vA (f.wA b) K R (r::rs) (sbc p Z e):=by
 show Cjr V.ro V.fp;·intro i s P;rw[akR (by rw[U];show(Dj P).1)];change BQ _=tE ..*Sc (JJ _)/\BQ _=tE ..*Sc (JJ _);rw[cm,cm];show V.va i s P
 ·intro v O;rw[Ui,u,F,(show v∈Cse from O)];change _<=Sc (JJ _)/\Sc (JJ _)<=_/\_<=Sc (JJ _)/\Sc (JJ _)<=_;rw[cm,cm];show V.bx u F
theorem vA.grow(F:Kc)(V:vA f K R rs p)(U:Bbd=AU)(I:Num)(e:Bool)(b:Ak)(r:K)(J:FE q)(Y:0<ρ)(z:ρ*ρ=BQ q):vA (Cbg b) K (R++[ρ]) (r::rs) (sbc p I e):=by
 let N:=V.ro.len;let m:=V.wA U I e b r;obtain⟨j,o,A⟩:=J;rw[aB A]at z;show⟨⟨?_,?_,?_⟩,?_,?_,m.bx⟩;·change HA R [ρ]=HA IA [q];grind
 ·intro k Z;let H:k<HA IA [q]:=Z;rw[Tv,k<Afh];·rw[gM h];show V.ro.pos k Ac
  ·grind
 ·intro k c i L C;let H:k<HA IA [q]:=(Dj L).1;rw[su,s0]at H;rw[Tv,k<CZ]
  ·let B:=by let:(IA++[q])[k]?=AW:=L;rw[Tt,xK h];rw[TQ]
   rw[Tj,a,t,d,_,F.so.at_ k c B];let:=jv (Cis (2^i=2^a) C d);rw[Cdv,Bmt];show V.ro.sa6 k c i B C
  ·rw[Vr,k=CZ]
   rw[VM,c=q,by let:(IA++[q])[CZ]?=AW:=L;rw[XP];show this.symm]
   let:=jv (Cis (2^i=2^j) C A);rw[VF];rw[<-N,jx,Bmt];show z
 ·intro x O;rw[gN N (F.num x O)];show V.fp x O
 ·intro i s P;let G:=tV [Dgi,Api=G_];change vV _ _=Bos (R++[ρ]) JB*_/\vV (R++[ρ]) s.y=Bos (R++[ρ]) JB*_;rw[gN N (Axd G).1,gN N (Axd G).2,m7 N JB 0 DS Bms];show m.va i s P
end
def t7.abi(V:t7 f p)(Z:LH=2^MW)(m:0<=Cfl z)(B:Bqr A=AU+1)(T:Cwk A=Km+1)(O:Aqr v=2^(MW+1)/\Aqs v=2^(MW+1))(h:∀(K:Bq)[Dw](R J:Ct)(r:K),uI (r::J) (z::FP)->vA f K R J p->∃c,vA A K c (r::J) ((sbc p z e).more v)):t7 A ((sbc p z e).more v):=by
 show[Cvz,Am V.good Z m,BV K _ J a];·change HA Cse [v]=_;rw[su,sr,V.len,B];rfl
 ·intro u F;change Aqr u=2^(MW+1)/\Aqs u=2^(MW+1);rcases Ard (show u∈Cse++[v]from F)with F|F;·rw[Ui,y,Q,F];rw[Th,cQ (V.pl y Q).1,cQ (V.pl y Q).2]
  ·grind
 ·change Bsf+1=_;rw[V.db,T]
 ·cases J with|nil=>grind[uI,Put.more,sbc]|cons r J=>let b:uI _ (z::FP):=a;rw[Tc,R,H,V.va K _ b.1];grind
def abj{k:Nat}(h:sY Aic 1=Aa)(o:sd):sbP o .add (ut b) (BH [LM])=Cbz (b++[k]):=by change Oy (sY ..=Aa)=_;rw[sr,s0,h];simp[ut]
def akS(h:sY Qc 1=Aa)(o:sd):sbP o .add (uJ s) (BH [tI q])=BN (uJ (s++[q])):=by change Oy (sY ..=Aa)=_;rw[sr,s0,h];simp[uJ]
section
variable{f:sH}{W:List Nat}{g:Nat}
def akT(F:Kc)(m n:Nat)(s:sd)(q:Ao)(o:ve)(U R u:Ao)(b:Nat)(T:Km<=Cc):NU (n+2) 47 [IF,xN q o U R u,En] s=Se (tJ ((f.wA (Gb++[b])).add Nr Nt GQ u)):=by let Z:sY [Cwk,(Bad Nr Nt)] 1=Aa:=aP [Ij,Km+1<=_];rw[Ti,r,D.obj 2 [Dq ((Biy _ _ _).ur.map _),Dq ((f.add Nr Nt GQ _).xL.map _),uJ (Bad Nr Nt).sq,ut ((Bad Nr Nt).bits++[b])]=tJ ((f.wA (Gb++[b])).add Nr Nt GQ u)];rw[aic,Ap];simp only[shk,csAll,aa3,jq,gJ,(gK F m n s Nr Nt GQ u),fB,mV,bS,gH,abj Z _,mC,mU,r,dX]
end
section
variable{f:sH}{W:List Nat}{g:Nat}
def sam(l:Nat)(x:Ao)(z:Int)(y:Ao):Ao:=Pc (2^l)++vO (2^l) Ddr
def abk(F:Kc)(h:FE x)(L:FE y)(q:Ao)(w:Nat)(B:GD=1):sfo (IA++[q]) (sam CZ x z y)/\nN (W++[w]) (sam CZ x z y)=FQ+AI y*w/\∀(K:Bq)[Dw](R:Ct)(A:K),Afh=CZ->vV (R++[A]) (sam CZ x z y)=Jq+sk z*BQ y*A:=by
 let J:=F.wl;rw[Ut,a,X,C];rw[WH,b,r,v];rw[Tq,P,AG Ddr=2^b]
 let V:An [Pc,(2^CZ)]=2^CZ:=c7 C X;let Q:AG Cxq=2^CZ:=c7 P r;let H:An (sam CZ x z y)=2^(CZ+1):=by grind[sam,List.length_append,Nat.pow_succ]
 rw[Uc,t,CZ=a+(CZ-a)]
 rw[Uc,l,CZ=b+(CZ-b)]
 show Pz [Am,CZ+1,Aq,H]
 ·rw[aw H];unfold sam;rw[i8 _ V,Ani,Ani,Cin (Aac (W++[w]) CZ 1=w)];let G:C_ CZ (Pc (2^CZ))=FQ:=by grind[aw,i9]
  let I:C_ CZ Cxq=AI y:=by rw[aw v];let:=i9 W P (CZ-b);rw[Xm,l];rw[this,cj W z v,B,Nat.one_mul]
  rw[G,I]
 ·intro K _ R A N;rw[aB H];unfold sam;rw[iZ _ V,Bmt,Bmt,show Aac (R++[A]) CZ 0=A by rw[<-N];show jx];let G:GP CZ (Pc (2^CZ))=Jq:=by rw[aB C];let:=i_ R C (CZ-a);rw[Xm,t];rw[TQ]
  let I:GP CZ Cxq=sk z*BQ y:=by rw[aB v];let:=i_ R P (CZ-b);rw[Xm,l];rw[this,ci R z v]
  rw[G,I]
def zk(b:Nat):Bm:=[Bsa,b=0,1,-1]
def akU(F:Kc)(m n:Nat)(s:sd)(q:Ao)(o:ve)(U R u:Ao)(b:Nat)(hb:Km<=Cc)(J:FE Nr)(K:FE Nt)(H:FE U)(j:FE R)(d:AI U<=2^(g+1))(i:AI R<=2^(g+1)):NU (n+3) 48 [IF,xN q o U R u,En] s=Se (tJ ((Cbg (Gb++[b])).add (Bah Nr U) (Bah Nt R) GQ u)):=by
 rw[Xl];let w:=F.gm;let N:=C.three;let z:AX Cmt<=2^0:=by grind[zk]
 let e:∀{y:Afi},FE y->AI y<=2^(g+1)->NU (n+2) 27 [Ec (zk b),Ajh] s=Ew (tI (y.map (zk b*·))) s:=by intro y L Q;rw[WH,l,Z,I];rw[aw I]at Q;show fj m _ _ _ _ λv O=>c6 z (EI (dD Aeb I v O) Q) Bye
 let M:=e H d;let T:=e j i;let k:∀{x y:Afi},FE x->FE y->NU (n+2) 31 [Fq,tI (y.map (zk b*·)),AZ CZ] s=Se (tI (Bah x y)):=by intro x y⟨a,A,B⟩⟨c,c1,P⟩;show ajW m n s CZ a c x _ B Ag A c1 N
 let V:=k J H;let w2:=k K j;rw[UO,p,Bah Nr U,X];rw[UO,r,Bah Nt R,Y];let sp:=gK F m (n+1) s X Y GQ u;let Z:sY [Cwk,(Bad X Y)] 1=Aa:=aP [Ij,Km+1<=_];let I:sY (Bad X Y).sq.length 1=Aa:=aP [Ij,CZ+1<=_];rw[Ti,t,D.obj 2 [Dq ((Bad X Y).ur.map xb),Dq ((Bad X Y).xL.map tI),uJ ((Bad X Y).sq++[q]),ut ((Bad X Y).bits++[b])]=tJ ((Cbg (Gb++[b])).add X Y GQ u)];let tn:Io (Bb (n+2)) [Ayp,Axm Bj,QL,(Cap)] [Bmz,As (xN q o U R u),Dv b,Dv CZ,As (xb o),Ad,Ad,Ad,Ad] s=Se [Ec,zk b]:=by
  unfold zk;rw[Tv,b=0];·subst h;rfl
  ·rw[UW,G,Pg Cj=Af];rw[Ti,n1,-(1)=-1];rw[Vt,G,h]
 rw[aid,Ap];simp only[shm,↓tn,csAll,ajT,gI,aa3,gJ,jq,mW,mX,dY,dZ,dI,M,T,V,w2,fC,sp,fB,mV,bS,gH,abj Z s,akS I s,dC,mC,mU,t,dX]
end
def akV(Z:Nat):Au Z+Au Z=Gq Z 2:=AE
def xO(f:sH)(q:Ao)(o:ve)(U R u:Ao)(v:Bool)(b:Nat):sH:=[Bdc,v,(f.wA (Gb++[b])).add Nr Nt GQ u,(Cbg (Gb++[b])).add (Bah Nr U) (Bah Nt R) GQ u]
def sdR(p:Put)(i j:Nat)(Z l y:Num)(v R:Bool):Put:=(sbc p Z (Ahe||(R&&v))).more (wf FP Aec i j Z l y R)
section
variable{K:Type}[OK K]
def akW{C B:K}(l:d=(q-A)*(q-A)+(a-u)*(a-u))(h:s*s=4*P*d-n*n)(Z:k*(2*d)=1)(p:X=A+(n*k*(q-A)+s*k*(-(a-u))))(r:Y=u+(n*k*(a-u)+s*k*(q-A)))(L:P=C*C)(c:0<=C):X-A<=C/\-C<=X-A/\Y-u<=C/\-C<=Y-u:=by
 let e:(X-A)*(X-A)+(Y-u)*(Y-u)=C*C:=by
  let G:(X-A)*(X-A)+(Y-u)*(Y-u)=k*k*d*(n*n+s*s):=by rw[p,r,l];grind
  rw[G,h,<-L];rw[Tq,z,k*k*d*(n*n+(4*P*d-n*n))=P*(k*(2*d))*(k*(2*d))]
  rw[z,Z];grind
 let I:=bE (X-A);let J:=bE (Y-u);rw[TK,X-A,x];rw[TK,Y-u,y];rw[Tq,G,x*x<=C*C]
 rw[Tq,z,y*y<=C*C]
 rw[Tq,F,(-x)*(-x)<=C*C]
 rw[Tq,H,(-y)*(-y)<=C*C]
 let:=cg c G;let:=cg c z;let:=cg c F;let:=cg c H;show Bat<;>grind
end
def abl{K:Bq}[Dw]{w d n x Y a k T r V:K}(Z:k*(2*d)=1)(M:V=w*a):w*w*w*(2*d*x+n*Y)+T*V*(w*w*r)=w*(2*(w*w*d))*(x+(n*k*Y+T*r*k*a)):=by
 rw[Tq,h,w*(2*(w*w*d))*(x+(n*k*Y+T*r*k*a))=w*w*w*(2*d*x+(k*(2*d))*(n*Y)+(k*(2*d))*(T*r*a))]
 rw[h,Z,M];grind
section
variable{f:sH}{W:List Nat}{g:Nat}
def akX(F:Kc)(V:t7 f p)(hs:Api=G_)(ht:Aqm j=Ae t)(hc:Dm c)(hg:g<=5239)(U0:AU<Cc)(h3:CZ<3)(MO:sjI f W g s t c e Rw q o ax ay fc)(Z:AG z1=2^MW)(I:Ah=2^MW)(l3:CK=2^MW)(hz:∀(K:Bq)[Dw](J:Ct),uI J FP->∀d n:K,d=(Anp-Aee)*(Anp-Aee)+(Anq-Aef)*(Anq-Aef)->n=d+Sj c c-Sj e e->Aoc=d/\Ajx=n/\DE z1=4*Sj c c*d-n*n)(s2:CV [Cfl,l])(s1:0<=Asf)(v:Bool)(X0:v=Pg Asf)(hb:b<=1):∃W',vz (xO f q o ax ay fc v b) W' (3*g+25)/\t7 (xO f q o ax ay fc v b) (sdR p i j z1 l y v (b==1)):=by
 let om:=MO.om;let hi:=d_ V hs;let hj:=d_ V ht;let G0:GQ<2^AU:=Cb om (shO (Bsx (tV hs)) (F.mlt t (tV ht)))
 let E0:∀(K:Bq)[Dw](R J:Ct),uI J FP->vA f K R J p->∃w d n x u qx qy:K,0<w/\0<d/\w=PJ GQ/\d=(qx-x)*(qx-x)+(qy-u)*(qy-u)/\x=Aee/\u=Aef/\qx=Anp/\qy=Anq/\Aoc=d/\Ajx=n/\DE z1=4*Sj c c*d-n*n/\BQ q=w*w*(w*w)*(4*Sj c c*d-n*n)/\Bwb=w*w*w*(2*d*x+n*(qx-x))/\Bwc=w*w*w*(2*d*u+n*(qy-u))/\BQ ax=-(w*(qy-u))/\BQ ay=w*(qx-x)/\Bnc=2*(w*w*d):=by
  intro K _ R J O H;rw[Tc,v1,v2,H.va i s hs];rw[Tc,v3,v4,H.va j t ht];rw[Te,c1,c2,M,hz K J O _ _ Ab Ab];rw[TZ,m1,P,m3,m4,m5,m6,MO.val K R H.ro H.fp _ _ _ _ v1 v2 v3 v4 (PJ GQ) _ _ (by rw[om]) Ab Ab];let dp:EY<=Aoc:=by rw[c1];let a1:=bE (Anp-Aee);let a2:=bE (Anq-Aef);grind
  rw[UF,dn,Aoc,0,h,s2 ((u8 O I).zero.mpr h)];let Q0:EY<Aoc:=cF dp [GG,dn h.symm];show⟨_,_,_,_,_,_,_,fA _ 0 DS H.fp,by rw[c1]at Q0;show Q0,Ab,Ab,Ab,Ab,Ab,Ab,c1,c2,M,m1,P,m3,m4,m5,m6⟩
 rw[Tj,K0,_,J1,Y0,Csd];rw[Tc,R0,V0,V.va K0 J1 Y0];rw[TW,O0,∀(K:Bq)[Dw],EY<2,K,_,Bzj jy (cG FS)]
 let f1:1<=AI fc:=by obtain⟨w,d,n,x,u,qx,qy,wp,dp,_,_,_,_,_,_,_,_,_,_,_,_,_,_,m6⟩:=E0 K0 R0 J1 Y0 V0;show akw F.so V0.ro Bvn [Eb,m6,af (O0 K0) (af (af wp wp) dp)]
 let b2:=MO.b2;let b3:=MO.b3;let b4:=MO.b4;let b5:=MO.b5;let b6:=MO.b6;rw[<-om]at b2 b3 b4 b5;let Q:∀a b:Aw,a<=b->2^a<=2^b:=λa b h=>Mc h;let W0:2^g*AI fc<=2^(3*g+25):=by let:=sjJ (2^g) b6;rw[Xm,sK];show GN this (Q _ _ Ac)
 let Z0:∀(K:Bq)[Dw](r:K)(J:Ct),uI (r::J) (z1::FP)->CV Aoc:=λK _ r J O h=>s2 ((u8 O.1 I).zero.mpr h);let N1:sfa (z1::FP):=Am V.good Z s1;rw[Tj,K1,_,M1,I0,l8 N1];obtain⟨r1,V1,rfl⟩:∃r J,M1=r::J:=by cases M1 with|nil=>rw[T',I0,(CO uI)]|cons a b=>rw[Tp,a,b,Ab]
 rw[Te,C1,D1,_,abh I0 hi hj V.pl I l3 (Z0 K1 _ _ I0) (b==1)];let F1:∀(K:Bq)[Dw](R J:Ct)(r:K),uI (r::J) (z1::FP)->vA f K R J p->∀w d n x u qx qy:K,d=(qx-x)*(qx-x)+(qy-u)*(qy-u)->x=Aee->u=Aef->qx=Anp->qy=Anq->Aoc=d->Ajx=n->DE z1=4*Sj c c*d-n*n->∃k sg:K,k*(2*d)=1/\sg=([Gz,b=1,-r,r])/\sF (r::J) (wf FP Aec i j z1 l y (b==1)).x=x+(n*k*(qx-x)+sg*k*(-(qy-u)))/\sF (r::J) (wf FP Aec i j z1 l y (b==1)).y=u+(n*k*(qy-u)+sg*k*(qx-x))/\(-KP (12*(AU+1)+10)<=sF (r::J) (wf FP Aec i j z1 l y (b==1)).x/\sF (r::J) (wf FP Aec i j z1 l y (b==1)).x<=KP (12*(AU+1)+10)/\-KP (12*(AU+1)+10)<=sF (r::J) (wf FP Aec i j z1 l y (b==1)).y/\sF (r::J) (wf FP Aec i j z1 l y (b==1)).y<=KP (12*(AU+1)+10)):=by
  intro K _ R J r O H w d n x u qx qy hD m l0 C0 D0 N e3 e1;rw[Te,_,_,h,abh O hi hj V.pl I l3 (Z0 K _ _ O) (b==1)];rw[Tj,k,k1,U,k3,h x u qx qy _ m l0 C0 D0 Ab];rw[N]at k1;rw[e3]at U k3;let sb:(if(b==1)=Aa then-r else r)=[Gz,b=1,-r,r]:=by
   rw[Tv,b=1];·rw[NA,Av (DY h)]
   ·rw[Nw,Bui h]
  rw[sb]at U k3;let ss:([Gz,b=1,-r,r])*([Gz,b=1,-r,r])=4*Sj c c*d-n*n:=by
   rw[<-e1,<-O.2.2.1];rw[Tv,b=1];·rw[NA];grind
   ·rw[Nw]
  let cc:CA [Gq,c,c]=LY c*LY c:=by rw[<-ak,<-tT]
  let c0:EY<=LY c:=by let:=Cpx 0 Gg Ac;rw[Tt,aH];rw[TQ]
  rw[Tj,x1,x2,x3,x4,akW (B:=EY) hD ss k1 U k3 cc c0];rw[Tj,y1,z,T,y4,H.bx _ (fD hi)];rw[<-m]at y1 z;rw[<-l0]at T y4;let cK:CA Gg<=Asv:=(gL NG).2;let kk:QD (12*AU+10)+Asv<=KP (12*(AU+1)+10):=by
   let a1:=Bxr 10 (12*AU+10);let a2:QD (12*AU+10)+KP (12*AU+10)=KP (12*AU+11):=by unfold KP;rw[<-az];congr 1;rw[FZ (12*AU+11=(12*AU+10)+1),t5];show akV _
   let a3:=[Bxr,12*AU+11,12*(AU+1)+10];grind
  show⟨k,_,k1,Ab,U,k3,?_⟩;rw[TK,sF (r::J) (wf FP Aec i j z1 l y (b==1)).x,X];rw[TK,sF (r::J) (wf FP Aec i j z1 l y (b==1)).y,Y];rw[TK,QD (12*AU+10),A];rw[TK,QD (12*(AU+1)+10),A'];rw[TK,QD 10,U1];rw[TK,CA Gg,C];clear U k3 ss cc sb k1 hz E0;show Bat<;>grind
 cases v with
 |true=>
  let z0:Asf=0:=Cm X0.symm;let F':=F.wA (Gb++[b]);show Pz W;·show F'.add Ac U0 MO.n2 MO.n3 Bvn f1 G0 W0 (GN b2 (Q _ _ Ac)) (GN b3 (Q _ _ Ac))
  ·show V.abi Z s1 [Cmo,xO,sH.wA] [Cmo,xO,sH.wA] [Aj,C1,D1] λK _ R J r O H=>FY R;obtain⟨w,d,n,x,u,qx,qy,wp,dp,hw,hD,m,l0,C0,D0,N,e3,e1,m1,P,m3,m4,m5,m6⟩:=E0 K R J O.1 H;rw[Vd,k,sg,k1,H0,U,k3,kb,F1 K R J r O H w d n x u qx qy hD m l0 C0 D0 N e3 e1];let r0:r=0:=by
    let G:=(u8 O.1 Z).zero.mp z0;let h2:r*r=0:=Baw O.2.2.1
    show(aag h2).mp Ab
   let Q1:sg=0:=by rw[H0,r0];split<;>grind
   rw[Q1]at U k3;let V':=H.wA Aad z1 (Ahe||((b==1)&&Aa)) (Gb++[b]) r;let J0:0<Bnc:=Cb m6 (af (O0 K) (af (af wp wp) dp))
   show V'.add F' (by change An Cpk=_;rw[sr];show V.len) G0 J0 ?_ ?_ kb;·change Bwb=PJ GQ*Bnc*_;rw[P,m6,U,<-hw];grind
   ·change Bwc=PJ GQ*Bnc*_;rw[m3,m6,k3,<-hw];grind
 |false=>
  let z0:CV Asf:=shP X0.symm;let mp:=Bpe GQ 0 DS F;let q1:=MO.b1;let zt:AX Cmt=1:=by unfold zk;split<;>decide
  let T1:2^(2*g+22)+1<=2^Bfh:=by let G:2^(2*g+22)<2^Bfh:=sdJ Ac Ac;show G
  let F':=F.grow (q:=q) (w:=2^(2*g+22)+1) (Gb++[b]) h3 MO.n1 (by rw[shF,<-sK];show GN q1 (Q _ _ Ac)) (GN q1 (Q _ _ [Bxl,WB])) (Nat.le_add_left 1 _) T1;rw[Te,x1,x2,x3,abk F MO.n2 MO.n4 q (2^(2*g+22)+1) zt];rw[Te,y1,z,T,abk F MO.n3 MO.n5 q (2^(2*g+22)+1) zt];let wl:=F.wl;let P0:∀{a c:Nat},a*Ayj<=2^(3*g+23)->c*Ayj<=2^(g+1)->(a+c*(2^(2*g+22)+1))*Ayj<=2^(3*g+25):=by
   intro a c ha P1;rw[Tq,G,(a+c*(2^(2*g+22)+1))*Ayj=a*Ayj+c*Ayj*(2^(2*g+22)+1)]
   let h2:=EZ (2^(2*g+22)+1) P1;let h3:2^(g+1)*(2^(2*g+22)+1)=2^(3*g+23)+2^(g+1):=by rw[Nat.mul_add,<-sK,Nat.mul_one,FZ (g+1+(2*g+22)=3*g+23)]
   let h4:=Q (g+1) (3*g+23) Ac;rw[UX,L,2^(3*g+25),2^(3*g+23)*4,FZ (3*g+25=(3*g+23)+2),sK]
   rw[G,L];rw[TK,2^(3*g+23),A];rw[TK,2^(g+1),B];rw[TK,a*Ayj,A1];rw[TK,c*Ayj*(2^(2*g+22)+1),A2];rw[TK,B*(2^(2*g+22)+1),A3];omega
  let me:Apx (W++[2^(2*g+22)+1]) GQ=Ayj:=m_ wl GQ 0 DS Bms;show Pz (W++[2^(2*g+22)+1])
  ·show F'.add Ac U0 x1 y1 (jw Bvn) (by rw[d5 wl Bvn];show f1) G0 (by rw[d5 wl Bvn];show W0) ?_ ?_;·change nN _ _*Apx _ GQ<=_;rw[me,x2];show P0 b2 b4
   ·change nN _ _*Apx _ GQ<=_;rw[me,z];show P0 b3 b5
  ·show V.abi Z s1 [Cmo,xO,sH.grow] [Cmo,xO,sH.grow] [Aj,C1,D1] λK _ R J r O H=>?_;obtain⟨w,d,n,x,u,qx,qy,wp,dp,hw,hD,m,l0,C0,D0,N,e3,e1,m1,P,m3,m4,m5,m6⟩:=E0 K R J O.1 H;rw[Vd,k,sg,k1,H0,U,k3,kb,F1 K R J r O H w d n x u qx qy hD m l0 C0 D0 N e3 e1];let rl:=H.ro.len;rw[UF,rn,r,0,h,z0 ((u8 O.1 Z).zero.mpr (by rw[<-O.2.2.1,h];grind))];let rp:0<r:=cF O.2.1 [GG,rn h.symm];let V':=H.grow F Aad z1 (Ahe||((b==1)&&Af)) (Gb++[b]) r MO.n1 (ρ:=w*w*r) (af (af wp wp) rp) (by rw[m1,<-e1,<-O.2.2.1];grind);let J0:0<Bnc:=Cb m6 (af (O0 K) (af (af wp wp) dp))
   let tk:CA Cmt*r=sg:=by
    rw[H0];unfold zk;rw[Tv,b=1];·rw[NA,My,aq,ah];grind
    ·rw[Nw,Nj,ah];grind
   let vf:vV (R++[w*w*r]) fc=Bnc:=gN rl Bvn;rw[UX,vd,Bos (R++[w*w*r]) GQ,w,m7 rl GQ 0 DS Bms,hw]
   rw[Th,R++[w*w*r],V'.add F' (by change An Cpk=_;rw[sr];show V.len) G0 (by rw[vf];show J0) ?_ ?_ kb];·change vV (R++[w*w*r]) (Bah Nr ax)=Bos (R++[w*w*r]) GQ*vV (R++[w*w*r]) fc*_;rw[vd,vf,x3 K R _ rl,P,m4,m6,U,<-tk];show abl k1 (by clear U k3 kb;grind)
   ·change vV (R++[w*w*r]) (Bah Nt ay)=Bos (R++[w*w*r]) GQ*vV (R++[w*w*r]) fc*_;rw[vd,vf,T K R _ rl,m3,m5,m6,k3,<-tk];show abl k1 Ab
end
def akY{K:Bq}[Dw](n:Nat):Aax n=LY n:=Ch
section
variable{f:sH}{W:List Nat}{g:Nat}
def san(i j c e:Nat)(w N:D):D:=Jw [w,N,QV i [AT,j],QV c Azx]
def aI:Akq o 0 (Jw [a,b,c,d]) (FF 0)=Gj:=rfl
def akZ:Akq o 0 (Jw [a,b,c,d]) (FF 1)=Ae b:=rfl
def dJ:Akq o 0 (Jw [a,b,c,d]) (FF 2)=AW:=rfl
def bp:Akq o 0 (Jw [a,b,c,d]) (FF 3)=Ea:=rfl
def bZ:Rr o [a,b] 0=Fw a:=rfl
def b_:Rr o [a,b] 1=Fw b:=rfl
structure sjK(f:sH)(g:Nat)(p:Put)(l:Line)(fig:Aw->sH)(put:Bh->Put)(ok touch:Bool):Al where
 no:ok=Af->Cqr (∃err,Bcz b s l=Gy err)
 yes:ok=Aa->Cqr (Bcz b s l=EG (put (Bbr Bsf)))
 fo:ok=Aa->∀b,b<=1->∃W',vz (fig b) W' (3*g+25)
 fr:ok=Aa->∀b,b<=1->t7 (fig b) (put (b==1))
 bi:ok=Aa->∀b,(fig b).bits=Gb++[b]/\Bqr (fig b)=AU+1/\(fig b).sq.length<=CZ+1
 tw:ok=Aa->∀r,(put r).twice=(Ahe||(r&&touch))
def ak_(F:Kc)(V:t7 f p)(m n:Nat)(st:sd)(hi:i<AU)(hj:j<AU)(L:Dm c)(Y:Dm e)(hg:g<=5239)(V0:AU<Cc)(h3:CZ<3)(T:Km<=Cc)(wd nm:D):∃J0 X0 ok v,IM (n+14) 49 [IF,san i j c e wd nm,ut (b0::bs)]=Me (Bp [Bdc,ok=Aa,Bp [DZ,v=Aa,[b0],b0::bs] J0,[]] tJ)/\sjK f g p (.dyad i c j e) J0 X0 ok v:=by
 rw[Us,s,P,s,Api=G_,_,Dz hi];rw[Us,t,ht,t,Aqm j=Ae t,_,Dz hj];rw[Xl];rw[Vd,q,o,U,R,u,hm,k,akO F m (n+2) st P ht L Y];rw[Te,sz,E0,D1,aaW C m n st k.n1 k.b1 Ac];rw[Te,sf,H0,C1,aaW C m n st k.n6 k.b6 Ac];let Q0:=fE V P;let U0:=fE V ht;rw[Tj,K0,_,D0,C0,Csd];obtain⟨z1,z2,z3,hz,Z,l2,l3,_⟩:=abf C0 Q0 U0 [LN,c*c] [LN,e*e];let P0:∀(K:Bq)[Dw](J:Ct),uI J FP->∀D' E':K,D'=(Anp-Aee)*(Anp-Aee)+(Anq-Aef)*(Anq-Aef)->E'=D'+Sj c c-Sj e e->DE z2=D'/\DE z3=E'/\DE z1=4*Sj c c*D'-E'*E':=by intro K _ J O D' E' hD hE;obtain⟨y1,y2,y3,Q,_,_,_,h⟩:=abf O Q0 U0 [LN,c*c] [LN,e*e];rw[hz]at Q;rw[Tc,e1,Q,scr Q];rw[Tc,N,e3,scr Q];let:=h D' E' hD (hE);rw[e1,N,e3];rw[TQ]
 rw[Tc,R0,l0,V.va K0 D0 C0];rw[Tc,v1,v2,l0.va i s P];rw[Tc,v3,v4,l0.va j t ht];rw[Te,c1,c2,M,P0 K0 D0 C0 _ _ Ab Ab];rw[TZ,m1,_,_,_,_,m6,k.val K0 R0 l0.ro l0.fp _ _ _ _ v1 v2 v3 v4 _ _ _ Ab Ab Ab];rw[<-M]at m1;rw[<-c1]at m6;let wp:=fA (R:=R0) Rw 0 DS l0.fp;rw[TK,Bos R0 Rw,w];let Z0:(0:K0)<2:=by rw[<-jy];show cG FS
 let Y0:sz=Asf:=by let G:=D1 K0 R0 l0.ro;rw[T_,m1];let h2:=(u8 C0 Z).scale (af (af wp wp) (af wp wp));show G.uniq (by rw[Bpv (w*w*(w*w)*sF D0 z1=sF D0 z1*(w*w*(w*w)))];show h2)
 let F1:sf=Cdw:=by let G:=C1 K0 R0 l0.ro;rw[T_,m6];let h2:=(u8 C0 l2).scale (af Z0 (af wp wp));show G.uniq (by rw[Bpv (2*(w*w*sF D0 z2)=sF D0 z2*(2*(w*w)))];show h2)
 let W0:0<Asf->CV Cdw:=by intro G h2;let X:=(u8 C0 Z).pos.mp G;let a2:=(u8 C0 l2).zero.mp h2;rw[M,<-c1,a2]at X;let a3:=bE (K:=K0) (0+Sj c c-Sj e e);let a4:=(Cbe _).mp X;grind
 let H:Cqr (Bcz b s (.dyad i c j e)=[CH,Cdw=0,Gy (c==e),[Bo,Asf<0,Gy Af,EG (sdR p i j z1 z2 z3 (Pg Asf) (Bbr Bsf))]]):=by intro a b s;change Oy (Cfl (circles FP Aun (Cpt [Cn,c*c]) Boo (Cpt [Cn,e*e])).2.1=0)=_;rw[hz];rfl
 let I0:∀v,v=Pg Asf->CV Cdw->0<=Asf->sjK f g p (.dyad i c j e) (xO f q o U R u v) (sdR p i j z1 z2 z3 v) Aa v:=by
  intro v O0 s2 s1;rw[TW,dk,∀b,b<=1->_,b,T,akX F V P ht L hg V0 h3 k Z l2 l3 P0 s2 s1 v O0 T];show[Ds,Aoa,BV _ a b s,Bz _ b T,Bz _ b T,AV _ b,λ_ r=>Ab];·rw[H,AF s2,My,<-O0]
  ·rw[Te,W',h,_,dk b T];rw[Th,W',h]
  ·rw[Te,_,_,h,dk b T];show h
  ·cases v<;>simp[xO,sH.add,sH.wA,sH.grow]
 let mp:=Bpe Rw 0 DS F;rw[Tx,wm,RG b _,b,akU F m (n+10) st q o U R u b T k.n2 k.n3 k.n4 k.n5 (NR mp k.b4) (NR mp k.b5)];rw[Tx,wt,RG b _,b,akT F m (n+11) st q o U R u b T];rw[Ti,ib,Rs (ut (b0::bs)) GO=Bkx b0];rw[Tx,G0,∀l:Fs,Adu [CW,l]=Me l,l,aS];rw[Va,0<sz]
 ·show⟨xO f q o U R u Af,sdR p i j z1 z2 z3 Af,Aa,Af,?_,I0 Af ?_ ?_ ?_⟩
  ·let d1:Gp (sz>0)=Aa:=Bty;let B:=aA (cl:=Bb (n+13)) (it:=MN Bj) (i:=5) (j:=99) (b:=QP 48 EL JC) (ρ:=[Bmz,As (san i j c e wd nm),As (ut (b0::bs)),As (xN q o U R u),Dv sz,Ad]) (st:=st) (s:=Et (ut (b0::bs))) (items:=Ana [Nz,b0::bs,Cct] x x) (λx=>Cpd (tJ (xO f q o U R u Af PM))) Ab Aou ?_;·rw[TC,san,B];rw[iI,Ap];simp only[sb_,↓B,csAll,san,dJ,bp,bZ,b_,hm,gI,bS,E0,d1,G0,sO];rfl
   ·intro x hx;rw[Ui,y,Q,hx];rw[Ui,b,_,Q];show Anf;let:=wm b;rw[UM,this];rfl
  ·rw[<-Y0];show Om MT
  ·show W0 Ac
  ·omega
 ·rw[UW,d1,Gp (sz>0)=Af];rw[Td,h2,sz<0]
  ·let I:Bl sz 0=Aa:=Bx h2;show⟨Ej f,Ej p,Af,Af,?_,Ds [BV,_,a,b,s] Aoa Aoa Aoa Aoa Aoa⟩;·rw[iI,Ap];simp only[sb_,csAll,san,dJ,bp,bZ,b_,hm,gI,gJ,bS,E0,d1,I,H0,G0];try rfl
   ·rw[H];rw[Tv,Cdw=0];·rw[Ur,NA]
    ·rw[Ur,Hy Nw Nj]
  ·let I:Bl sz 0=Af:=B_ h2;rw[Td,h4,sf=0]
   ·let A:Pg sf=Aa:=Bx h4;show⟨Ej f,Ej p,Af,Af,?_,Ds [BV,_,a,b,s] Aoa Aoa Aoa Aoa Aoa⟩;·rw[iI,Ap];simp only[sb_,csAll,san,dJ,bp,bZ,b_,hm,gI,gJ,bS,E0,d1,I,A,H0,G0];try rfl
    ·rw[H];rw[Ur,Nj]
   ·let A:Pg sf=Af:=B_ h4;show⟨xO f q o U R u Aa,sdR p i j z1 z2 z3 Aa,Aa,Aa,?_,I0 Aa ?_ ?_ ?_⟩;·let:=wt b0;rw[iI,Ap];simp only[sb_,csAll,san,dJ,bp,bZ,b_,hm,gI,gJ,bS,E0,d1,I,A,H0,ib,this,gG,G0];rfl
    ·show Om Db
    ·omega
    ·omega
end
def c9:Qx HX HX=Aa:=Ch
def gO:Qx HX FN=Af:=Ch
def gQ:Qx HX GB=Af:=Ch
def d6:Qx HX IL=Af:=Ch
def da:Qx FN HX=Af:=Ch
def fF:Qx FN FN=Aa:=Ch
def fG:Qx FN GB=Af:=Ch
def d7:Qx FN IL=Af:=Ch
def dc:Qx GB HX=Af:=Ch
def fH:Qx GB FN=Af:=Ch
def fJ:Qx GB GB=Aa:=Ch
def d8:Qx GB IL=Af:=Ch
def d9:Qx IL HX=Af:=Ch
def gR:Qx IL FN=Af:=Ch
def gS:Qx IL GB=Af:=Ch
def ed:Qx IL IL=Aa:=Ch
def t8(n:Lk.Name):D:=Aql (Au Bce-65) [AT,Brg]
def wg(q:Rat):D:=tI [Bfv,Cfb q]
def sw(i:Item):D:=[Dgm,Jw [Rh,Bvd,Bwo,PK x y],Jw [Mu,Bvd,BH [HB],BH [RA]],Jw [IK,Bvd,CN HB Amx,QV a En],Jw [PZ,Bvd,CN HB Amx,CN Ane Axg]]
def shQ(n:Nat):Cbp|.pin x y=>Aiw x/\Aiw y|.crank p r=>p<n/\Dm r|.dyad p a q b=>p<n/\q<n/\Dm a/\Dm b|.rider p q u v=>p<n/\q<n/\Bsr u/\u.den<=20/\Bsr v/\v.den<=20
def sao(s d:Nat):Aw:=Bo [Bbr,d] 1 0
def scs(s d:Nat):Ak:=[Pp,d].map (sao s)
def Mt(s:Nat)(j:Ak):Al:=j=scs s Ate
def ak0(s d:Nat):scs s (d+1)=scs s d++[Qu d]:=MV scs List.range_succ
def auz(s d:Nat):An (scs s d)=d:=CO scs
theorem Mt.snoc:Mt s (j++[b])↔Mt s j/\b=Qu Ate:=MV Mt ak0
def yy:Aai->Aw->Ak|none,_=>[0,1]|some s,d=>[Qu d]
def zl:Cbs|.dyad _ _ _ _=>true|_=>false
def sfr(l:Line)(g:Nat):Aw:=[Bo,zl l,3*g+25,g+25]
def xg(l:Line)(d:Nat):Aw:=[Bo,zl l,d+1,d]
def ak1(s d:Nat):Qu d<=1:=by grind[sao]
def ak2(s d:Nat):(Qu d==1)=Bbr d:=by grind[sao]
structure shR(mo:Aai)(a b:Int)(f:sH)(p:Put)(l:Line)(g:Nat)(gs:Ahs):Al where
 each:∀f'∈gs,∃W' p',vz f' W' (sfr l g)/\t7 f' p'/\f'.ur.length=AU+1/\f'.sq.length<=xg l CZ/\f'.bits.length=xg l Km/\(∀s,mo=G_->Anw s->Mt s Clp)/\(∀s,Mt s Clp->Anw s/\Bcz b s l=EG p')/\(mo=Ad->p'.twice=Ahe)/\(∀x∈f'.bits,x∈Gb\/x<=1)
 all:∀s p',(mo=Ad\/mo=G_)->Anw s->Bcz b s l=EG p'->(mo=Ad->p'.twice=Af)->∃f'∈gs,Mt s Clp
 pre:∀f'∈gs,f'.bits.take Km=Gb
 sfs:GW (gs.map sH.bits)
 len:gs.length<=Cv (zl l) 2 1
def ni(j:zl l=Af)(F:vz A w (g+25))(V:t7 A L)(G:Bqr A=AU+1)(z:A.bits=Gb)(H:A.sq=IA)(U:∀s,Bcz b s l=EG L)(I:L.twice=Ahe):shR m a b f p l g [A]:=by
 show Dau;·intro x O;rw[Ul,PC O];show⟨w,_,by grind[sfr],V,G,?_,?_,?_,?_,Ej I,λx O=>Aq⟩;all_goals rw[We,xg]
 all_goals grind
section
variable{f:sH}{W:List Nat}{g:Nat}
def nj(x:sH):D.lst [tJ x]=Dq ([x].map tJ):=rfl
def ak3:Rr o Hi 0=Fw a:=rfl
def ak4(F:Kc)(V:t7 f p)(m n:Nat)(o:sd)(i:Item)(hk:AU=k)(C1:k<24)(B:shQ k DM)(M:Aau<=99)(T:AX b<=99)(H:¬(a=0/\b=0))(hg:g+25<=Axu)(J0:Bep=Aa->g<=5239)(Z0:CZ<=Km)(I0:Bep=Aa->Km<3)(Y0:Km<=3)(hC:Cgz (d<3->Ajn C (Azc)=Cbz (yy mo d))):∃gs:Ahs,Cg (n+15) 50 [IF,Gi,tI [a,b],C]=Mn (gs.map tJ)/\shR mo a b f p DM g gs:=by
 obtain⟨nm,l⟩:=i;rw[Tx,C0,∀l:Fs,Bfp [CW,l]=Cca l,l,aS];cases l with
 |pin x y=>obtain⟨lx,X⟩:=B;rw[Vd,A,R,F',V',e1,N,J,akJ F V m (n+12) o lx X hg Ac];show Aho [A] (ni Ab F' V' e1 N J (λs=>Ab) Ab);rw[iJ,Ap];simp only[sb0,sw,c9,gO,gQ,d6,da,fF,fG,d7,dc,fH,fJ,d8,d9,gR,gS,ed,csAll,aI,bp,bZ,b_,R,gG,nj,C0]
 |crank q r=>obtain⟨lq,lr⟩:=B;rw[Us,s,P,s,Aqm q=G_,_,SH];rw[Vd,A,R,F',V',e1,N,J,akL F V m (n+5) o P lr M T H hg Ac];show Aho [A] (ni Ab F' V' e1 N J (λs=>Ab) Ab);rw[iJ,Ap];simp only[sb0,sw,c9,gO,gQ,d6,da,fF,fG,d7,dc,fH,fJ,d8,d9,gR,gS,ed,csAll,aI,dJ,bp,ak3,R,gG,nj,C0]
 |rider q r u v=>obtain⟨lq,lr,Z,l2,l3,L⟩:=B;rw[Us,s,P,s,Aqm q=G_,_,SH];rw[Us,t,I,s,Aqm r=G_,_,SH];rw[Vd,A,R,F',V',e1,N,J,akN F V m (n+3) o P I Z l2 l3 L hg Ac];show Aho [A] (ni Ab F' V' e1 N J (λs=>Ab) Ab);rw[iJ,Ap];simp only[sb0,sw,wg,c9,gO,gQ,d6,da,fF,fG,d7,dc,fH,fJ,d8,d9,gR,gS,ed,csAll,aI,dJ,bp,bZ,b_,R,gG,nj,C0]
 |dyad q c r e=>
  obtain⟨lq,lr,lc,le⟩:=B;let d3:=I0 Ab;let G0:=hC o Km d3;obtain⟨G,j,Y⟩:∃G j,yy mo Km=G::j:=by cases mo<;>rw[Ua,_,Ab]
  rw[Y]at G0;rw[TZ,D0,W0,ok,l0,H0,DO,ak_ F V m n o (i:=q) (j:=r) (c:=c) (e:=e) Ac Ac lc le (J0 Ab) Ac Ac Ac (IK) (t8 nm) (b0:=G) (bs:=j)];show Pz [Bdc,ok=Aa,Bp [DZ,l0=Aa,[G],G::j] D0,[]]
  ·rw[XF,lb,Bpk o [Bvb],BN [AT,Km],ut,my,sr]
   rw[TC,san,H0];rw[iJ,Ap];simp only[sb0,sw,c9,gO,gQ,d6,da,fF,fG,d7,dc,fH,fJ,d8,d9,gR,gS,ed,csAll,aI,dJ,bp,gH,lb,G0,H0,C0]
  ·let Q0:∀x∈G::j,x<=1:=by rw[<-Y];cases mo with|none=>intro x O;simp[yy]at O;omega|some s=>intro x O;simp[yy]at O;rw[O];show ak1 _ _
   cases ok with
   |false=>rw[TU,λ_ h=>Qi h,HF s p' _ _ h _,λ_ h=>Qi h,AY,AY];rw[Tc,er,z,DO.no Ab a b s];rw[Tg,z];rw[T',h,AN]
   |true=>
    let X0:∀x,x∈([DZ,l0=Aa,[G],G::j])->x∈G::j:=by intro x O;cases l0 with|true=>rw[PC O];show Cwa|false=>show O
    let V0:∀{s x:Nat},x=Qu Km->(x==1)=Bbr Bsf:=by intro s x h;rw[h,V.db];show ak2 _ _
    show Dau
    ·intro A R;rw[Ui,x,O,R];let E0:=X0 x O;let x1:=Q0 x E0;rw[Tc,w,F',DO.fo Ab x x1];rw[Te,e1,N,J,Cbh x];show⟨w,W0 (x==1),F',DO.fr Ab x x1,N,J,Agj e1 su,?_,?_,?_,?_⟩;·intro s P h;rw[e1,Mt.snoc];rw[<-Y,P]at E0;rw[Th,h,PC E0]
     ·intro s h;rw[e1,Mt.snoc]at h;rw[Th,Bk,Hy Dft (V0 Ck)]
     ·intro hn;rw[DO.tw Ab];cases l0 with
      |false=>simp
      |true=>
       let:x=G:=PC O;rw[hn]at Y;let:G=0:=by simp[yy]at Y;omega
       rw[VF];subst x;simp
     ·intro y Q;rw[e1]at Q;rcases Ard Q with Q|Q;·rw[TB,Q]
      ·rw[PC Q];rw[TN,x1]
    ·intro s p' K P U I;rw[Up,Dft];rw[Ul,shS U];let O0:Qu Km∈([DZ,l0=Aa,[G],G::j]):=by
      rcases K with K|K;·let h:=I K;rw[Tg,DO.tw Ab];rw[K]at Y;rw[YL,rfl];cases l0 with|false=>simp[sao]|true=>rw[Tg,V.db];simp at h;simp[sao,Ck]
      ·rw[K]at Y;rw[YL,rfl];cases l0<;>simp
     show HS _ [Bcx,Oi O0];rw[(Cbh _).1,Mt.snoc];rw[TY,P]
    ·intro A R;rw[Ui,x,O,R];rw[(Cbh x).1,Bsy]
    ·change GW (List.map sH.bits (List.map D0 _));rw[sO];let nd:GW (G::j):=by rw[<-Y];cases mo<;>simp[yy]
     let U0:GW ([DZ,l0=Aa,[G],G::j]):=by cases l0 with|true=>simp|false=>show nd
     show List.Pairwise.map _ ?_ U0;intro x y P0 h;apply P0;let:Gb++[x]=Gb++[y]:=by rw[<-(Cbh x).1,<-(Cbh y).1];show h
     rw[VO]
    ·change An (List.map D0 _)<=2;rw[sr];let:IV G j<=2:=by rw[<-Y];cases mo<;>simp[yy]
     cases l0 with|true=>simp|false=>rw[TQ]
end
def yz:Put:=AO [] [] 0 Af
def nk(a b:Int)(s:Nat)(i:Item):∀(l:Linkage)(m:Put),Ali b s Dt m=[Coo,Ali b s l m,KI,k.line a b s DM]
|[],m=>by change(Coo [Btk,b,s,_] _ _)=Btk b s _;cases Btk b s _<;>rfl|j::l,m=>by change([Coo,Btk b s _,_,Ali b s _ k])=(match([Coo,Btk b s _,_,Ali b s l k])with|.error e=>_|.ok k=>_);cases Btk b s _ with|error e=>rfl|ok k=>show nk a b s i l k
def ak5{p:Put}(h:Bcz b s l=EG L)(I:L.twice=Af):Ahe=Af:=by cases l with|pin x y=>rw[Tf];show I|crank q r=>rw[Tf];show I|rider q r u v=>rw[Tf];show I|dyad q c r e=>grind[Put.line]
structure sbd(mo:Aai)(a b:Int)(l:Linkage)(fs:Ahs):Al where
 each:∀f∈fs,∃W p,Cos (25*Ah*3^Dh)/\t7 f p/\AU=Ah/\CZ<=Km/\Km=Dh/\(∀s,mo=G_->Anw s)/\(∀s,Anw s->Ali b s l yz=EG p)/\(mo=Ad->Ahe=Af)/\(Csx x 1)
 all:∀s p,(mo=Ad\/mo=G_)->Ali b s l yz=EG p->(mo=Ad->Ahe=Af)->∃f∈fs,Anw s
 sfs:GW (fs.map sH.bits)
 len:Cue<=2^Dh
def slu(i:Item):Bpz=Bep:=by unfold isDyad zl;rw[Wt]<;>rfl
def ef(l:Linkage)(i:Item):Qe Dt=xg DM (Dh):=by unfold dyads xg;rw[sdS,wT,slu];grind
def shT(m:Aai)(a b:Int)(l:Linkage)(i:Item)(f:sH)(K:Ahs):Al:=∃p,t7 f p/\AU=Ah/\CZ<=Km/\Km=Dh/\(∀s,m=G_->Anw s)/\(∀s,Anw s->Ali b s l yz=EG p)/\(m=Ad->Ahe=Af)/\(Csx x 1)/\shR m a b f p DM (25*Ah*3^Dh) K
def ak6(i:Item)(l:Linkage):sfr DM (25*Ah*3^Dh)<=25*Bhi l*3^Qe Dt:=by rw[ef,su,sfr,xg];cases zl _ with|true=>change 3*(25*Ah*3^Dh)+25<=25*(Ah+1)*3^(Dh+1);rw[t5];grind|false=>grind
def rA{e:QE Ahs}(h:x∈e.flatten):∃(k:Nat)(K:Ahs),e[k]?=Ae K/\x∈K:=by rw[Te,K,G,z,List.mem_flatten.mp h];rw[Wk,k,Z,G];grind
theorem sbd.step(S:sbd m a b l I){l0:QE Ahs}(U:Bec=KN)(h:∀(k:Nat)f K,I[k]?=Ajv->l0[k]?=Ae K->shT m a b l i f K)(hg:25*Bhi l*3^Qe Dt<=Axu):sbd m a b Dt l0.flatten:=by
 let C0:∀{k:Nat}{K:Ahs},l0[k]?=Ae K->∃f,I[k]?=Ajv/\shT m a b l i f K:=by
  intro k K Z;let:k<KN:=Aq
  rw[Tp,I[k],Cxa,h k _ K (Cxa) Z]
 show Bat
 ·intro A D0;rw[Tj,k,K,Z,O,rA D0];obtain⟨f,R,p,V,W,N,J,B,e5,H,q,L⟩:=C0 Z;obtain⟨W',p',t,V',l1,l2,l3,l4,l5,l6,l7⟩:=L.each A O;show⟨W',p',t.up (ak6 i l) hg,V',Aq,?_,by grind[ef],?_,?_,?_,?_⟩;·grind[Nat.le_trans,xg]
  ·grind
  ·rw[We,nk]
  ·intro hn;rw[l6 hn];show H hn
  ·intro x O;rw[WS,l7 x O];·show q x h
   ·show h
 ·intro s p' hm Y ht;rw[nk]at Y;cases hq:Ali b s l yz with
  |error e=>rw[hq]at Y;cases Y
  |ok p=>
   rw[hq]at Y;let Y:Bcz b s DM=EG p':=Y;rw[Te,f,R,n,S.all s p hm hq λhn=>ak5 Y (ht hn)];rw[Wk,k,Z,R];let o:k<Bec:=by rw[U];show(Dj Z).1
   obtain⟨p2,V,W,N,J,B,e5,H,q,L⟩:=h k f _ Z (Dz o);let:p2=p:=by let:=e5 s n;rw[Tt,hq];show Om (shS this)
   rw[VF];rw[Te,A,D0,G0,L.all s p' hm n Y ht];rw[Tp,A,List.mem_flatten.mpr [HV,zg o,D0],G0]
 ·rw[List.map_flatten];unfold List.Nodup;rw[List.pairwise_flatten];rw[TH];·intro y Q;rw[Ui,K,E0,Q];rw[Wk,k,Z,E0];obtain⟨f,R,p,V,W,N,J,B,e5,H,q,L⟩:=C0 Z;show L.sfs
  ·rw[shU];intro u v F hv J0 x O y Q e;rw[sr]at F hv;rw[shV]at O Q;rw[Ui,M,O0,O];rw[Ui,T,P0,Q];obtain⟨G,H0,p1,_,_,_,c1,_,_,_,_,L1⟩:=C0 (Dz F);obtain⟨f2,I0,p2,_,_,_,P,_,_,_,_,L2⟩:=C0 (Dz hv);let X:=L1.pre M O0;let a2:=L2.pre T P0;rw[c1,e]at X;rw[P]at a2;let w:=S.sfs;rw[TC,List.Nodup,w];rw[shU]at w;rw[Tc,b1,b2,Dj H0];rw[Tc,d1,d2,Dj I0];let:=w u v (by rw[sr];show b1) (by rw[sr];show d1) J0;rw[shV,shV,b2,d2]at this;show this (by rw[<-X,<-a2])
 ·let C:∀(l0:QE Ahs)(c:Nat),(∀K∈l0,AG K<=c)->Cgw l0<=Bec*c:=by intro l0 c hc;induction l0 with|nil=>simp|cons g r d=>let h1:=hc g Avl;let z:=d λx O=>hc x (MA O);rw[sbE,su,sT,Nat.succ_mul];omega
  let Z:=C l0 [Cv,Bep,2,1] λK E0=>by rw[Wk,k,Z,E0];obtain⟨f,R,p,V,W,N,J,B,e5,H,q,L⟩:=C0 Z;show L.len
  rw[U]at Z;let sl:=S.len;rw[ef];unfold xg;cases j:Bep with|true=>rw[j]at Z;change _<=2^(Dh+1);rw[t5];let:Cv (Aa=Aa) 2 1=2:=rfl;rw[this]at Z;omega|false=>rw[j]at Z;change _<=2^Dh;let:Cv (Af=Aa) 2 1=1:=rfl;rw[this]at Z;omega
theorem fs0(m:Aai)(a b:Int):sbd m a b [] [AO [] [] [] []]:=by
 show Bat
 ·intro f R;rw[Ul,PC R];show⟨[],yz,⟨AO AY AY AY [HN,AY],Ab,AY,Ab,AY,AY,AY,CO uK,AY,AY,AY,HN Aq⟩,[DP,vH,Ab,CO yz,λK _ J O=>Aj [] [AO,Am Ab AY AY,AY,AY,CO yz]],Ab,AY,Ab,?_,?_,Arv,AY⟩;·intro s _;rfl
  ·intro s _;rfl
 ·intro s p _ _ _;rw[Ua,sct.mpr Ab,Ab]
 ·simp
 ·simp[dyads]
def sjL(A:sM)(a:Nat)(v:D)(o:sd):Mr:=Cyl Ail [Aub,sY BC LF=Aa,DJ A (Ahh [DK,C++O])]
def ak7(h:Axi=Ape)(z:uT o a=Aa):Mo r (.ext i e) A o=Afr (ev r e A o) v o (sjL A a v o):=by change Apo Axi _ _=_;rw[h];change Oy (uT o a=Aa)=_;rw[Av z];rfl
def gT{J:Bq}{l:LJ}{x y:J}:Ip (l++[x]) Ah y=l++[y]:=Agj (sft _ _ Do) zm
def nr{J:Bq}{l:LJ}{x:J}(h:CS=Bi):Bun (k+1)=Apr++[x]:=Agj scq h
def uu(l:Linkage):D:=Dq Ht
def sdT(l:Linkage):Al:=Bmh/\Dh<=3/\Cku (CS=Ju->shQ k DM)
def nv(l:Linkage)(k:Nat):Qe NE<=Dh:=Bzc dyads (List.Sublist.length_le ((sgy k l).filter _))
def nw(Z:k<=24)(j:d<=3):25*k*3^d<=Bfi:=by
 let G:3^d<=3^3:=Mc j;rw[Uc,z,25*k<=600]
 show He z G
def ak8(Z:k<=23)(j:d<=2):25*k*3^d<=5175:=by
 let G:3^d<=3^2:=Mc j;rw[Uc,z,25*k<=575]
 show He z G
def ak9:D.obj 2 [Aaf,Aaf,Bwo,Bwo]=tJ [AO,[],[],[],[]]:=rfl
def abm(m n:Nat)(o:sd)(t:sdT l)(M:Aau<=99)(hb:AX b<=99)(h0:¬(a=0/\b=0))(hC:Cgz (d<3->Ajn C (Azc)=Cbz (yy mo d)))(pC:t4 C=Aa):∃I:Ahs,Cg (n+16) 51 [CL,tI [a,b],C]=Mn Agi/\sbd mo a b l I:=by
 obtain⟨V0,d3,P0⟩:=t;obtain⟨U,l0,O,I,q,x5,c,S,I0,G0⟩:=iU (cl:=Bb (n+15)) (m:=m) (i:=4) (it:=Aim) (b:=QU 5 Bbz [Cop,6,(MN BJ),.ext 5 (FW 50 H_ [Akk,Dg,AL,HW])] [F_,3,.ao 5]) (s:=Et CL) (items:=Ana Ht x x) (λk A l0=>∃I q x5 c,sbd mo a b NE I/\A=[BL,GR [a,b],Jr,Bnk,q,x5,c]/\l0=o++LW k Adx) (ρ:=[BL,GR [a,b],Jr,Aia ([(AO [] [] [] []:sH)].map tJ),Ad,Ad,Ad]) (st:=o) Em (by simp[sN.size,uu,tP,uS]) (by intro k A l0 _;show Bva (dA (d:=CL) Ab)) (by
  rintro k x y A l0 w⟨I,q,x5,c,S,rfl,rfl⟩;rw[sO,tD]at w;rw[WM,i,hi,w,w];rw[WA,scr w];let kl:k<Ah:=(Dj hi).1;let tl:An Apr=k:=Fb ug
  let sn:=nr hi;let dl:=nv l k;let C0:=nv l (k+1);rw[sn,ef]at C0;let g1:25*An Apr*3^Qe NE<=Bfi:=nw Ac Ac;let v:25*Bhi Apr*3^Qe (Apr++[i])<=Axu:=EI (nw [Aqb,su,s0] (Fb ef)) Ac;let fl:KN<=8:=GN S.len [EI,Mc [Ij,Qe NE<=3],Dc];rw[UO,hT,o++LW k uR.dead,T];obtain⟨W0,u,Y,e,y6,s,gP,J0,H0⟩:=iU (cl:=Bb (n+15)) (m:=m) (i:=6) (it:=MN BJ) (b:=FA (.ext 5 (FW 50 H_ [Akk,Dg,AL,HW]))) (s:=MN [DK,Agi]) (items:=Ana Agi x x) (λj A l0=>∃(e:QE Ahs)(y6:LI),AG e=j/\(∀(X:Nat)f K,I[X]?=Ajv->e[X]?=Ae K->shT mo a b NE i f K)/\A=[BL,GR [a,b],Jr,Bnk,Hq i,Bwv,y6]/\l0=QW T (Aur)) (ρ:=[BL,GR [a,b],Jr,Bnk,Hq i,Bwv,c]) (st:=QW T []) Em [Bqp,sN.size,tP,uS] (by intro k A l0 _;show Bva (dA (d:=Dq Agi) Ab)) (by
   rintro j x y A l0 w⟨e,y6,s,gP,rfl,rfl⟩;rw[sO,tD]at w;rw[WM,f,R,w,w];rw[WA,scr w];let jl:j<KN:=(Dj R).1;obtain⟨W,p,F,V,e1,N,J,e4,e5,e6,e7⟩:=Brp (tV R);rw[Te,K,h,L,ak4 F V m n (QW T (Aur)) i (k:=k) [Ni,e1,tl] Ac (P0 k i hi) M hb h0 Ac (by intro hd;rw[xg,hd]at C0;let E0:Qe NE+1<=Dh:=C0;show EI (ak8 Ac Ac) Ac) N (by intro hd;rw[xg,hd]at C0;let E0:Qe NE+1<=Dh:=C0;omega) Ac (mo:=mo) hC];show⟨[BL,GR [a,b],Jr,Bnk,Hq i,Bwv,Bmz],QW T ((e++[K]).flatten.map tJ),?_,e++[K],_,Agj su s,?_,Ab,Ab⟩
   ·let U0:Cgw e<=16:=by
     let O0:∀(v:QE Ahs),(∀K∈v,AG K<=2)->Cgw v<=AG v*2:=by intro v hc;induction v with|nil=>simp|cons g r ih=>let G:=hc g Avl;let z:=ih λx O=>hc x (MA O);rw[sbE,su,sT,Nat.succ_mul];omega
     let:=O0 e λK h=>by
      rw[Wk,X,B,h];let:X<KN:=Byr (Dj B).1
      obtain⟨_,_,_,_,_,_,_,_,_,L'⟩:=gP X _ K (Cxa) B;show GN L'.len (by split<;>decide)
     omega
    let Q0:AG K<=2:=GN L.len (by split<;>decide);let lf:[Asi,An Aur,K.map tJ]=Aa:=aP [Aqb,sr,sr];let P:(QW T (Aur))[Mi]?=Aia Aur:=AY
    let ap:∀U:sM,U=[BL,GR [a,b],Jr,Bnk,Hq i,Bwv,Bmz]->Mo (Bb (n+15)) (.ext 5 (FW 50 H_ [Akk,Dg,AL,HW])) U (QW T (Aur))=DJ U (QW T ((e++[K]).flatten.map tJ)):=by rintro U rfl;rw[ak7 (a:=T.length) Em (CO uT)];simp only[csAll,h,sjL,P,lf,gT];simp
    rw[UM,ap _ Ab]
   ·intro X f2 v D0 H;rw[Td,B,X<AG e];·rw[xK B]at H;show gP X f2 v D0 H
    ·let:X<HA e [K]:=(Dj H).1;rw[VW,su,s0];rw[Vr,X=AG e]
     rw[s,R]at D0;rw[Ul,GF D0];simp at H;subst H;show⟨p,V,e1,N,J,e4,e5,e6,e7,L⟩) [OT,[],c,AY,Ab,Ab];rw[sr,sr]at s;subst J0 H0;show⟨[BL,GR [a,b],Jr,Aia Aur,Hq i,Bwv,y6],T++Cit,?_,e.flatten,_,_,_,?_,Ab,?_⟩
  ·rw[UX,fz,Io (Bb (n+15)) (.ao 5) [BL,GR [a,b],Jr,Bnk,Hq i,Bwv,y6] (QW T (Aur)),[Dr,Dq Aur,T++Cit],e9 (a:=T.length) (xs:=Aur) Em AN,gT]
   rw[Wm,cM,Y,fz]
  ·rw[sn];show S.step s gP v
  ·rw[<-hT,uk];congr 1;rw[<-List.replicate_succ']) [BF,_,_,_,_,fs0 mo a b,Ab,AY];rw[sr,sr,yt]at S;show Aho I S;subst I0;let Q:Awq [JI,Pt [Dq,Agi],l0]=Mn Agi:=by rw[fe,G0,Bsy];rfl
 rw[Ti,Z,List.map tJ [(AO [] [] [] []:sH)]=[tJ [AO,[],[],[],[]]]];rw[Z]at O;rw[aie,Ap];rw[Uh,shn,ak9,O,gG,Q]
def nA:∀{l:Ao},x∈v8 i l↔x=i\/x∈l
|[]=>CO v8
|j::r=>by
 unfold v8;split;·simp
 ·rw[yQ,nA,yQ];rw[TH];·rintro(h|h|h)<;>simp[h]
  ·rintro(h|h|h)<;>simp[h]
def abn:∀{l:Ao},l.Pairwise Cbb->i∉l->(v8 i l).Pairwise Cbb
|[],_,_=>CO v8
|j::r,h,n=>by
 rw[Vi,sdU.mp h];rw[UF,N,i,j,e,n [Eb,e,Cwa]];unfold v8;split
 ·show Ckf [AV,y,Q] h;rcases FI Q with rfl|Q;·omega
  ·let:=G y Q;omega
 ·show [Ckf,AV y Q,abn z λK=>n (MA K)];rcases nA.mp Q with rfl|Q;·omega
  ·show G y Q
def nE:∀{l:Ao},x∈yo l↔x∈l|[]=>CO yo|a::r=>by change x∈v8 a (yo r)↔_;rw[nA,nE,yQ]
def abo:∀{l:Ao},GW l->(yo l).Pairwise Cbb|[],_=>CO yo|a::r,h=>by rw[Vi,yS.mp h];show abn (abo z) λK=>G (nE.mp K)
def abp:∀{a b:Ao},a.Pairwise Cbb->b.Pairwise Cbb->(∀x,x∈a↔x∈b)->a=b
|[],[],_,_,_=>rfl
|[],y::b,_,_,h=>Qi (Hg (h y) Avl)
|x::a,[],_,_,h=>Qi ((h x).mp Avl)
|x::a,y::b,G,H,h=>by
 rw[Tc,X,C,sdU.mp G];rw[Tc,r,v,sdU.mp H];let w:x=y:=by
  rw[YO,((h x).mp Avl)];·show e
  ·rcases FI (Hg (h y) Avl)with A|A;·show A.symm
   ·let:=r x e;let:=X y A;omega
 subst w;congr 1;show abp C v Axc;rw[TH]
 ·intro B;rw[YO,((h z).mp (MA B))];·let:=X z B;omega
  ·show e
 ·intro B;rw[YO,(Hg (h z) (MA B))];·let:=r z B;omega
  ·show e
def shW:Aw->Ak->Ao|_,[]=>[]|k,b::r=>Gq b (2^k)::shW (k+1) r
def yA(j:Ak):Bm:=(shW 0 j).sum
instance(s:Nat)(j:Ak):Bqq (Mt s j):=inferInstanceAs(Bqq (j=_))
def ala(F:Cum<=3)(G:∀x∈bs,x<=1):∃s:Nat,yA bs=Au s/\s<2^Cum/\Mt s bs/\∀d,d<2^Cum->Mt d bs->d=s:=by
 rw[TW,C,RG x (x<=1->x=0\/x=1),x,h,AE]
 match bs,F,G with
 |[],_,_=>rw[VJ,0]
 |[x],_,h=>
  rw[Xp,x,(h x AN)];·rw[VJ,0]
  ·rw[VJ,1]
 |[x,y],_,h=>
  rw[Xp,x,(h x AN)]<;>rw[Xp,y,(h y AN)];·rw[VJ,0]
  ·rw[VJ,2]
  ·rw[VJ,1]
  ·rw[VJ,3]
 |[x,y,z],_,h=>
  rw[Xp,x,(h x AN)]<;>rw[Xp,y,(h y AN)]<;>rw[Xp,z,(h z AN)];·rw[VJ,0]
  ·rw[VJ,4]
  ·rw[VJ,2]
  ·rw[VJ,6]
  ·rw[VJ,1]
  ·rw[VJ,5]
  ·rw[VJ,3]
  ·rw[VJ,7]
 |_::_::_::_::_,h,_=>simp at h
def abq:∀(k:Nat)(j:Ak),Bp (vN k (j.map Cct)) (Czb Ax BE [JS,(b*2^JT)])=JX (shW k j)|_,[]=>rfl|k,b::r=>by change JS (Cj*2^DQ Ey)::_=Apn [Cn,b*2^k]::_;rw[abq (k+1) r,sP];congr 2;try rw[tT,aU]
def abr:∀{k:Nat}{j:Ak}{p:D×D},p∈vN k (j.map Cct)->∃i b:Nat,p=(Aez,En)/\i<k+Ate/\b∈j
|_,[],_,h=>JA h (CO vN)
|k,b::r,p,h=>by
 rcases FI (show p∈(Apn k,Apn b)::vN (k+1) (r.map Cct)from h)with rfl|h;·show Gd k b Cwz Cwa
 ·rw[Tk,i,c,W,N,J,abr h];rw[TU,i,c,W,Cwz,MA J]
def alb(m n:Nat)(o:sd)(F:Km<=3)(G:Csx x 1):Cg (n+1) 52 [IF]=JL (yA Gb):=by let L:=aA (cl:=LX) (it:=Qd (NX 2 3)) (i:=1) (j:=2) (b:=Btf Bj) (ρ:=[Bmz,Ad,Ad]) (st:=o) (s:=Qd (Bvb)) (items:=vN 0 (f.bits.map Cct)) (Czb Ax BE [JS,(b*2^JT)]) (by rw[UM,gH];try rfl) (gz Ab) (by rw[U'];rw[Vn,i,b,V,T,abr Y];let a:t_ Cj MC=Aa:=ck (a:=Cj) (p:=1) (by rw[wc];let:=G b T;omega) Cax;show Anf;rw[UM,a]);rw[abq]at L;rw[aif,Ap];rw[Vs,sho,L,csAll,ajM];rfl
def abt(a:Int):Gp (([Gz,a<0,-a,a])>99)=! Axa a 99:=Aq
def abu(m n:Nat)(o:sd)(a b:Int):Fa 1 53 Agq Alf=Bo (Amc a b=Aa) Cnq Cay:=by rw[Tx,J,∀z:Bm,(z==0)=Apc,z,Ab];rw[isPlace,PLACE,aig,Ap];rw[VQ,shp,abt,J];rw[Wc,Axa a 99,A];rw[Wc,Axa b 99,B];rw[Wc,Pg a,Z];rw[Wc,Pg b,Y];cases A<;>cases B<;>cases Z<;>cases Y<;>rw[Vt,sL,sC]
def abv(h:Amc a b=Aa):Aau<=99/\AX b<=99/\¬(a=0/\b=0):=by grind[isPlace,PLACE]
def alc(S:sbd Ad a b l I)(A:Dh<=3):yo (I.map λf=>yA Gb)=Bjb (Box (Bct a b)):=by
 let R:∀f∈I,∃s:Nat,yA Gb=Au s/\s<2^Dh/\Anw s/\∀d,d<2^Dh->Anw d->d=s:=by intro f h;obtain⟨W,p,F,V,O,Q,J,U,L,H,q⟩:=Brp h;let:=ala (bs:=f.bits) Ac q;rw[Tt,J];rw[TQ]
 let o:∀s,s<2^Dh->(isTold l a b s=Aa↔∃f∈I,Anw s):=by
  intro s P;let u:Bla a b s=Ali b s l yz:=by unfold figure;rw[My];rfl
  unfold isTold;rw[u];rw[TH];·rw[UH];cases Y:Ali b s l yz with|error e=>rw[Tg,Y];rw[Tf]|ok p=>rw[Tg,Y];show S.all s p GZ Y [Ej,by rw[TM,(! Ahe)=Aa];cases Z:p.twice with|false=>rfl|true=>rw[Tg,Z];rw[Tf]]
  ·rintro⟨f,h,n⟩;obtain⟨W,p,F,V,O,Q,J,U,L,H,q⟩:=Brp h;rw[L s n];change(! Ahe)=Aa;rw[H Ab];rfl
 show abp (abo ?_) ?_ ?_
 ·unfold List.Nodup;rw[sfu];let k:=S.sfs;rw[TC,List.Nodup,k];rw[sfu]at k;rw[Ud,shU,k];intro i j K C c e;show k i j K C c ?_;rw[Tk,s,m,B,N,_,R I[i] (zg K)];rw[Tk,t,M,T,r,_,R I[j] (zg C)];rw[m,M]at e;rw[Vr,s=t]
  obtain⟨_,_,_,_,_,_,J,_⟩:=S.each I[i] (zg K);obtain⟨_,_,_,_,_,_,X,_⟩:=S.each I[j] (zg C);unfold Mt at N r;rw[J]at N;rw[X]at r;rw[N,r]
 ·unfold LkF.ints LkF.sidesOf;rw[sfu];show List.Pairwise.imp ?_ (List.Pairwise.filter _ (List.pairwise_lt_range));intro x y h;omega
 ·intro x;rw[nE,zM];unfold LkF.ints LkF.sidesOf;rw[zM];rw[TH];·rintro⟨f,h,rfl⟩;rw[Tk,s,m,B,N,_,R f h];rw[Tp,s,saH.mpr [Aj,Bsn B,[Hg,o s B,Am f h N]],m.symm]
  ·rintro⟨s,h,rfl⟩;rw[Vi,saH.mp h];let G:=sjM.mp G;rw[Te,f,g,n,(o s G).mp z];rw[Tk,t,M,T,r,v,R f g];rw[Tp,f,g,Hy M (v s G n)]
def ald(m n:Nat)(o:sd)(t:sdT l)(a b:Int):Cg (n+17) 54 [CL,Agq,Alf]=[Bo,Amc a b=Aa,Mn [JX,Bjb (Box (Bct a b))],Cay]:=by
 let u:=abu m (n+15) o a b;rw[Tv,Amc a b=Aa]
 ·rw[NA];rw[Ux,h,u];rw[Te,M,T,H,abv h];let c:Cgz (d<3->Ajn (BH [Bgp,Bgp,Bgp]) (Azc)=Cbz (yy Ad d)):=by
   intro o d j;obtain rfl|rfl|rfl:d=0\/d=1\/d=2:=AE
   all_goals rfl
  rw[Te,I,L,S,abm m n o t M T H (mo:=none) c Ab];obtain⟨O,A,_⟩:=t;let i:KN<=8:=GN S.len [EI,Mc [Ij,Dh<=3],Dc];rw[Ti,C,Bgv [Agq,Alf]=tI [a,b]];let K:=aA (cl:=Bb (n+16)) (it:=MN BJ) (i:=4) (j:=99) (b:=HR 52 CT) (ρ:=[BL,Dv a,Dv b,Bnk,Ad]) (st:=o) (s:=MN [DK,Agi]) (items:=Axe Agi x x) (λp=>Cym [Ec,yA (b.map [Bxg,0])]) Ab Aou (by
   rw[U'];rw[Ui,y,Q,Y];rw[Ui,f,R,Q];obtain⟨W,p,F,V,U,N,J,B,X,Z,q⟩:=Brp R;let s:=alb m (n+15) o (f:=f) Ac q;let P:Bp Cgo (Bxg 0)=Gb:=by
    rw[sO];conv=>rhs;rw[<-Dey]
    rfl
   show Anf;rw[UM,s];change _=SG (JS (yA (Bp Cgo (Bxg 0)))) o;rw[P]);let g:Bp [Ana,Agi,x,x] (Byt [Cym,JS (yA (b.map [Bxg,0]))])=Bjd (I.map λf=>yA Gb):=by
   rw[sO,sO,sO];show Avx f _;change JS (yA (Bp Cgo (Bxg 0)))=_;let P:Bp Cgo (Bxg 0)=Gb:=by
    rw[sO];conv=>rhs;rw[<-Dey]
    rfl
   rw[P];rfl
  rw[g]at K;let e:Bl [An,I.map λf=>yA Gb] 64=Aa:=Bx (Fb sr);rw[Ti,J,Arc (Cbx 3) [Bgv [JS 0,JS 1]]=[Bgp,Bgp,Bgp]];let G:(Qk 1&&(Amk 3 BI&&Azl [Au,3]))=Aa:=DC
  rw[rW,Ap];simp only[seX,↓K,G,csAll,u,C,J,L,ajN,e,alc S A];try rfl
 ·rw[Nw];rw[Uz,h,u];rw[rW,Ap];rw[UK,seX,u]
def tK(i:Item):Ak:=match i.line with|.pin _ _=>HX|.crank _ _=>FN|.dyad _ _ _ _=>GB|.rider _ _ _ _=>IL
def br:ON 0 (Gi) (FF 0)=Lm (tK i):=by unfold sw tK;rw[Wt]<;>rfl
def de:GL Gi=Aa:=by unfold sw;rw[Wt]<;>rfl
def sfv(w:Ak)(d:D):Bh:=match d with|.obj 0 (.str v::_)=>AQ v w|_=>false
def nF(w:Ak)(i:Item):sfv w (Gi)=Ccb w:=by unfold sw tK;rw[Wt]<;>rfl
def jz:∀l:Arf,An [Nz,Bkv (Ana Ht x x) p (sfv w Ax),Byt Ax]=Bua w|[]=>rfl|i::l=>by rw[tz,tz,wT,wT];rw[nF];cases Ccb w with|true=>rw[Vs,tF,tz,sT,jz l]|false=>rw[VC,um,tO,jz l]
def abw(m n:Nat)(o:sd)(l:Linkage)(w:Ak):Fa 1 1 CL Ajg=BN [AT,Bua w]:=by let L:=aaB (cl:=LX) (it:=Aim) (i:=2) (j:=99) (c:=Bhc (Gf Bj 0)) (b:=Df) (ρ:=[BL,Lm w,Ad]) (st:=o) (s:=Et CL) (items:=Axe Ht x x) (λp=>sfv w Ax) (λp=>Ax) Ab Aou (by rw[U'];rw[Ui,y,Q,Y];rw[Ui,i,V,Q];rw[Vt,br,nF]) (by rw[U'];rw[Ui,y,Q,Y];rw[Ui,i,V,Q];rw[VY,de]);rw[rP,Ap];rw[Vs,seQ,L,csAll,jz]
def nG(l:Linkage):Bua GB=Dh:=by unfold dyads;congr 1;show Cmv i _;unfold tK isDyad;rw[Wt]<;>rfl
def abx(l:Linkage):Bua FN=Dx:=by unfold cranks;congr 1;show Cmv i _;unfold tK isCrank;rw[Wt]<;>rfl
def ale(s k:Nat):s/2^k&&&1=Qu k:=by
 let h:=mY s k;unfold sao;let z:s/2^k&&&1=s/2^k%2:=Nat.and_one_is_mod _;rw[Uc,F,s/2^k&&&1<=1]
 cases T:Bbr k with|true=>rw[Tg,T];let:=Aoo;simp;omega|false=>rw[Tg,T];let:=shP h;simp;omega
def alf(s d:Nat):Pg (Au s/2^Ahj d)=Bl s (2^d):=by
 let e:(Au s/2^Ahj d)=Ay (s/2^d):=by rw[sP,<-aU];rfl
 rw[e];let:s/2^d=0↔s<2^d:=Nat.div_eq_zero_iff_lt (uz d);rw[Tv,s<2^d];·rw[Abb,Bx (DY (this.mpr h))]
 ·rw[OL,B_ (Ceh (this.mp Ac))]
def alg(m n:Nat)(o:sd)(t:sdT l)(Y:Amc a b=Aa)(s:Nat):(∀e,Bla a b s=KI->Cg (n+17) 55 [CL,tI [a,b],Bvu]=Alx (-3))/\(∀p,Bla a b s=EG p->∃f W,Cg (n+17) 55 [CL,tI [a,b],Bvu]=BN IF/\Cos Bfi/\t7 f p/\AU=Ah):=by
 rw[Te,M,T,h0,abv Y];let X:=abw m (n+15) o l GB;rw[nG]at X;let g:=alf s (Dh);let G:Bn Ia [Au,Dh]=Aa:=Db;unfold figure;rw[Td,P,s<2^Dh]
 ·rw[My];let c:Cgz (d<3->Ajn (CW [ut [Qu 0],ut [Qu 1],ut [Qu 2]]) (Azc)=Cbz (yy (G_) d)):=by
   intro o d j;obtain rfl|rfl|rfl:d=0\/d=1\/d=2:=AE
   all_goals rfl
  rw[Te,I,L,S,abm m n o t M T h0 (mo:=G_) c Ab];obtain⟨O,A,_⟩:=t;rw[Bx P]at g;let K:=aA (cl:=Bb (n+16)) (it:=Buo (Asb)) (i:=4) (j:=99) (b:=Ahq [Sn,Bvl,(Bdg Bj Dg),Fe]) (ρ:=[BL,GR [a,b],Cd s,Ad,Ad]) (st:=o) (s:=Ly [DA Pm,DA Akl,DA Adg]) (items:=[DA Pm,DA Akl,DA Adg]) (Abz (ut [Qu PM])) Em ff (by
   intro p Y;obtain⟨k,rfl⟩:∃k:Nat,p=(.int (k:Int),.sD):=by
    simp at Y;rcases Y with rfl|rfl|rfl;·show⟨0,rfl⟩
    ·show⟨1,rfl⟩
    ·show⟨2,rfl⟩
   show⟨?_,rfl⟩;let R:decide ((0:Int)<=(k:Int))=true:=sdP (by omega);let e:((s:Int)/2^((k:Int)).toNat)=((s/2^k:Nat):Int):=by rw[sP,<-aU];rfl
   let C:ym (·&&&·) o ((s/2^k:Nat):Int) 1=.ok (.int (sao s k:Int)) o:=by unfold ym;rw[sdP (show(0:Int)<=((s/2^k:Nat):Int)from Int.natCast_nonneg _),sP];change sA.ok (D.int ((s/2^k&&&1:Nat):Int)) o=_;rw[ale]
   simp only[csAll,R,e,C];rfl);rw[Ti,em,([Agt [JS,0],DA Akl,DA Adg].map [Cnf,ut [Qu PM]])=[ut [Qu 0],ut [Qu 1],ut [Qu 2]]];rw[em]at K;let Q:Bfp [Dq,Agi]=Mn Agi:=aS;rw[Ti,nH,Ali b s l [AO,[],[],0,Af]=Ali b s l yz];rw[nH];let u:FU [An,Agi] 0=QO I:=by rw[sr];cases I with|nil=>rfl|cons x r=>show B_ (Cwz)
  rw[TH]
  ·intro e he;let w:I=[]:=by cases I with|nil=>rfl|cons f r=>obtain⟨W,p,F,V,e1,N,J,B,U,H,q⟩:=Brp Avl;rw[U s (B s Ab)]at he;cases he
   subst w;rw[lT,Ap];simp only[sds,↓K,csAll,X,G,g,L,sL,sC,shX,Int.natCast_zero,Int.ofNat_zero];try rfl
  ·intro p Z;rw[Te,f0,i,_,S.all s p Aot Z (GG SF)];obtain⟨f,r,rfl⟩:∃f r,I=f::r:=by cases I with|nil=>cases i|cons f r=>rw[Tp,f,r,Ab]
   obtain⟨W,p',F,V,e1,N,J,B,U,H,q⟩:=Brp Avl;let:p'=p:=by let:=U s (B s Ab);rw[Tt,Z];show Om (shS this)
   rw[VF];show⟨f,W,?_,F.up (nw O A) Ac,V,e1⟩;rw[Ti,v,Rr o (IF::r.map tJ) 0=BN IF];rw[UW,y,Pg [Ay,An (r.map tJ)+1]=Af];rw[lT,Ap];simp only[sds,↓K,csAll,X,G,g,L,sL,sC,y,v,dX];try rfl
 ·rw[Nj];rw[B_ P]at g;rw[TH];·intro e _;rw[lT,Ap];rw[UN,sds,X,G,g,sL,sC]
  ·intro p h;rw[Tf]
def gU(m n:Nat)(o:sd)(l:Linkage)(i:Nat):Fa 1 12 CL Aez=Amf SS (-4) Cnq:=by
 rw[Tq,e,Gp (i>=Au Bsi)=Bn Ah i]
 rw[ahL,Ap];rw[Vs,sgZ,uu,csAll,e];rw[Tv,SS];·rw[VQ,h,sL,sC]
 ·rw[XT,h]
def shY(l:Linkage)(a b:Int)(s i A:Nat)(o:sd):KL:=Iz ((Amc a b&&Bn A 3)=Af) Cay [Amf,SS,-4,match Bla a b s with|.error _=>Alx (-3)|.ok p=>Cca [Bfc (Azf Bir),Bfc (Azf Bis)]]
def alh(m n:Nat)(hm:Afe)(o:sd)(ok:sdT l)(a b:Int)(s i A:Nat):Cg (n+18) 56 [CL,Agq,Alf,Bvu,Aez,AT A]=shY l a b s i A o:=by
 let u:=abu m (n+16) o a b;let r:=gU m (n+16) o l i;rw[Tq,md,Gp (Abm>3)=! Bn A 3]
 rw[Ti,C,Bgv [Agq,Alf]=tI [a,b]];unfold shY;rw[Va,Amc a b=Aa]
 ·rw[Ux,G,u];rw[G,sac];rw[UG,A<=3]
  ·rw[Bvy,Aye];rw[Bvy]at md;rw[Td,h3,SS];·rw[Av h3];rw[Ux,h3,r];rw[gk,Ap];rw[UA,saY,u,md,r]
   ·rw[AF h3];rw[Uz,h3,r];rw[Tc,c1,c2,alg m n o ok G s];cases hf:Bla a b s with
    |error e=>let c1:=c1 e hf;rw[gk,Ap];rw[UN,saY,u,md,r,C,c1]
    |ok p=>
     rw[TZ,f,W,L,F,V,fl,c2 p hf];rw[Us,c,P,c,Api=AW,_,SH];let sm:=tV P;rw[Tk,d,j,nd,bd,B,jt F m (n+9) o c.mask];let l0:AI d<=2^Bfi:=GN bd [EI,fx _ Asw,F.xf];rw[Tc,nx,ny,F.sx c sm];rw[Tc,bx,E0,F.sn c sm];let M:=Bpe c.mask 0 DS F;let D0:AI c.x<=2^Bfi:=NR M bx;let G0:AI c.y<=2^Bfi:=NR M E0;rw[Tj,K,_,J,O,Csd];rw[Tc,R,H,V.va K J O];rw[Tc,X,vy,H.va i c P];rw[Tj,k1,U,k3,k4,H.bx _ (fD (d_ V P))];rw[Tc,y,Q,fE V P];let I0:=ok.1;let kl:QD (12*AU+10)<Bub:=by rw[akY];unfold KP;rw[bP];let:2^(12*AU+10)<2^900:=sdJ Ac Ac;show sfh.mpr this
     rw[Tx,N,[Brl,k<=2^Bfi,k<=2^Bfh],h,GN h OF];let Y:0<BQ d:=[Cb,B K R H.ro,fA _ 0 DS H.fp]
     let dd:∀{t:Ao}{x:Num},FE t->AI t<=2^Bfi->AD=2^MW->BQ t=PJ c.mask*Jb->-KP (12*AU+10)<=Jb->Jb<=KP (12*AU+10)->Cg (n+17) 38 [tI t,tI d,Cel,AT A]=JL [Cn,Cfh (Azf x)]:=by intro t x nt bt lx vt x1 v;obtain⟨lt,t1,T⟩:=nt;obtain⟨ld,d1,I⟩:=nd;rw[aw T]at bt;rw[aw I]at l0;rw[aB T]at vt;let H0:=B K R H.ro;rw[aB I]at H0 Y;show aku m (n+1) A hm F.so H.ro (q:=Bfh) Ac Ac [Bxl,WB] F.wt t1 d1 T I (N bt) (N l0) Y O lx Ag [Aj,by let h:=(Cbe _).mp kl;show[Blo,Cbe _,Bcd _ _ v Bk,λq=>h.2 (Bcd _ _ q v)],by let h:=(Cbe _).mp kl;show[Blo,Cbe _,Aq,λq=>h.2 Ag]] o
     let d1:=dd nx D0 y X k1 U;let I:=dd ny G0 Q vy k3 k4;let ix:=js (st:=o) P;let C0:=aA (cl:=Bb (n+17)) (it:=Et [Gc,Cni,Cnh]) (i:=9) (j:=99) (b:=KZ 38 Ahx [Kn,Kz,Aua 2 2,Qm]) (ρ:=[BL,Dv a,Dv b,Cd s,Qp,Cd A,Bmz,As (xb c),GR d,Ad]) (st:=o) (s:=Et [CN,tI c.x,tI c.y]) (items:=[Cne c.x,Cne c.y]) (λq=>@ite D (CG=tI c.x) (Ban) (Bfc (Azf Bir)) (Bfc (Azf Bis))) (by try rfl) (Bix [tI c.x,tI c.y]) (by
      intro q Z;let Z:q=Cne c.x\/q=Cne c.y:=by simpa using Z
      rcases Z with rfl|rfl;·rw[JO];rw[Vt,bS,d1]
      ·rw[Td,w,tI c.y=tI c.x];·rw[Av w];rw[Wm,bS,w,d1]
       ·rw[AF w];rw[Vt,bS,I]);let g:[Agt (tI c.x),Agt (tI c.y)].map (λq=>@ite D (CG=tI c.x) (Ban) (Bfc (Azf Bir)) (Bfc (Azf Bis)))=[Bfc (Azf Bir),Bfc (Azf Bis)]:=by
      rw[tz,tz,yY,JO];rw[Td,w,tI c.y=tI c.x];·rw[Av w];rw[w,d1]at I;let:=(Cjh I).1;rw[this]
      ·rw[AF w]
     rw[g]at C0;rw[gk,Ap];simp only[saY,↓C0,csAll,u,md,r,C,L,fB,ix,dI,j];try rfl
  ·rw[Bvz,JO];rw[Bvz]at md;rw[gk,Ap];rw[Uh,saY,u,md,sL,sC]
 ·rw[Uz,G,u];rw[T_,uU];rw[G,vG,JO];rw[gk,Ap];rw[UK,saY,u]
def aby{a:EV D D}(I:Aw->Bhp)(Q:JH Mr)(P:∀k A o,I k A o->Aga o=Fw Axz)(B:∀k x y A o,Axz=Ep x y->I k A o->(∃U V,f x y A o=R_/\I (k+1) U V)\/(∃d V,f x y A o=Akd/\Q (Akd))\/(∃e V,f x y A o=CM e V/\Q (CM e V)))(R:∀A o,I HY A o->Q (Arq A))(H:I 0 A o):Q (uG f s HY 0 A o):=by
 let C:Dbx (k+n=HY->I k A o->Q (uG f s n k A o)):=by intro n;induction n with|zero=>rw[Yh]|succ n i=>rw[Yh]
 grind
def ali{a:EV D D}(I:Aw->Bhp)(Q:JH Mr)(G:xF cl it ρ o=Fw s)(z:Avr o=HY)(P:∀k ρ o,I k ρ o->Aga o=Fw Axz)(A:∀k x y ρ o,Axz=Ep x y->I k ρ o->(∃U V,Ml cl b (Bcp (Bgc)) o=R_/\I (k+1) U V)\/(∃d V,Ml cl b (Bcp (Bgc)) o=Akd/\Q (Akd))\/(∃e V,Ml cl b (Bcp (Bgc)) o=CM e V/\Q (CM e V)))(R:∀ρ o,I HY ρ o->Q (Arq ρ))(H:I 0 ρ o):Q (Mo cl (.ww i j it b) ρ o):=[Cb,iT G z,aby I Q P A R H]
def abz{items:EV D D}(I:Aw->Bhp)(Q:JH Mr)(G:Bmk=Jy s)(z:Bnj=Boz)(P:∀k ρ st,I k ρ st->Adr=Jy Bjn)(A:∀k x y ρ st,Bjn=Ep x y->I k ρ st->(∃U V,Nu b (Bgc)=R_/\I (k+1) U V)\/(∃d V,Nu b (Bgc)=Akd/\Q (Akd))\/(∃e V,Nu b (Bgc)=CM e V/\Q (CM e V)))(R:∀ρ st,I Boz ρ st->Q (Ce Bsh))(H:I 0 ρ st):Q (Aan (.xB i it b)):=[Cb,aaD G z,aby I Q P A R H]
structure vg(st:sd)(d:D)(l:Linkage):Al where
 sq:Anv d=As Ht
 it:yr st d=Ce Axs
def cR:vg st (CL) l:=Aku Ab
def abA(h:Ail=Aia Ht):vg o (Jv) l:=by show Bpl;all_goals grind[tP,uS,yr]
section
variable{st:sd}{d:D}{l:Linkage}(h:vg st d l)
include h
theorem vg.idx{k:Nat}(V:CS=Ju):Rs d (LM)=Ce Gi:=by rw[aau h.sq,vr,Nj,sP,tD,V];rfl
theorem vg.len:Bhk [d]=Bkx Ah:=Hy (ajL h.sq) sr
def nI(m n:Nat)(w:Ak):IM (n+1) 1 [d,Ajg]=Bkx [Bua,w]:=by rw[rP,Ap];rw[Vs,seQ,(aaB (cl:=LX) (it:=Aim) (i:=2) (j:=99) (c:=Bhc (Gf Bj 0)) (b:=Df) (ρ:=[Ea,Lm w,Ad]) (λp=>sfv w Ax) _ [Brk,h.it] (dA h.sq) (by rw[U'];rw[Ui,y,Q,Y];rw[Ui,i,V,Q];rw[Vt,br,nF]) (by rw[U'];rw[Ui,y,Q,Y];rw[Ui,i,V,Q];rw[VY,de])),csAll,jz]
end
def gW:ON 0 (Gi) (FF 1)=As Bvd:=by unfold sw;rw[Wt]<;>rfl
def abB:zV o .eq (t8 a) (t8 b)=JM (a==b):=by let:zV _ .eq (t8 a) (t8 b)=Fw _:=rfl;rw[this];congr 2;obtain⟨x,y⟩:=a;obtain⟨u,v⟩:=b;grind
def wB:Aai->D|none=>Bt|some k=>LM
def alj:∀{l:Linkage}{k:Nat},(∀j i,j<k->Anh=Ju->p i=Af)->Ah<=k->Cir p=Ad:=by intro l k h U;rw[sjN];intro x O;rw[Wk,j,C,O];grind
def abC{l:Linkage}(h:∀j i,j<k->Anh=Ju->p i=Af)(V:CS=Ju)(Y:p i=Aa):Cir p=Ja:=by grind[List.findIdx?_eq_some_iff_getElem]
def jA(h:vg o d l)(m n:Nat)(N:Lk.Name):Fa 1 2 d Aoj=BN (wB (Sh N)):=by
 let Z:=ali (cl:=LX) (m:=m) (i:=2) (j:=3) (it:=Qd Bf) (b:=Bvi (Bhc (Gf BJ 1)) Cky) (ρ:=[Ea,CU,Ad,Ad]) (λk A V=>V=o/\(∃x y,A=[Ea,As Aoj,x,y])/\∀j i,j<k->Anh=Ju->(MU==N)=Af) (λr=>(r=JI [Pt,wB (Cir _)] _)\/((Sh N)=Ad/\∃A,r=DJ A _)) Em (gz h.sq).size (by rintro k A V⟨rfl,_,_⟩;show Bva (gz h.sq)) (by
  rintro k x y A V H⟨rfl,⟨u,v,rfl⟩,f⟩;rw[gy,tD]at H;cases U:CS with
  |none=>grind
  |some i=>
   rw[U]at H;rw[WA,scr (GF H)];rw[Um,(MU==N)=Aa]
   ·rw[Uv,AK ⟨AZ k,V,?_,Are⟩];·rw[WF,gW,abB,e,sal]
    ·rw[abC f U e];rfl
   ·rw[TB,⟨[Ea,As Aoj,Dv (Cn (0+k)),Hq i],_,?_,Ab,Bny,?_⟩];·rw[Wm,gW,abB,e]
    ·grind) (by rintro A V⟨rfl,⟨u,v,rfl⟩,f⟩;rw[TN,Atz (alj f ?_) _];rw[dR];grind) [Am,Ab,Bny,λj i C=>JA C Ac];rw[ahC,Ap];rcases Z with Z|⟨f,A,Z⟩
 ·let Q:Bfp (wB (Sh N))=BN (wB (Sh N)):=by cases Sh N with|none=>show ajH|some k=>show aar
  rw[Vs,seR,Z,csAll,Q]
 ·rw[f];rw[Vs,seR,Z,csAll,wB]
def wC(i:Item):Bh:=Cxm
def uA(l:Linkage)(k:Nat):Bh:=SW CS wC
def uV(l:Linkage)(k:Nat):Bh:=(CS).any [Aar,Dgn (Aav&&Aet)]
def sZ(l:Linkage)(k e:Nat):Bh:=(CS).any [Aar,[Cyf,e==p,e==p||e==q]]
def wD(l:Linkage)(p q:Nat):Bh:=Aav&&Aet||(sZ l p q||sZ l q p)
def sdV(l:Linkage):Al:=Cku (CS=Ju->∀u∈Bby DM,u<k)
def alk(i:Item):Ccb HX=wC i:=by unfold tK wC;rw[Wt]<;>rfl
def nJ:ON 0 (Gi) (FF 2)=Jh (Nz [Bby,DM] Avy):=by unfold sw;rw[Wt]<;>rfl
def nK:∀b:Bh,(Ae b==Bwm)=b:=DC
def nL:vv o .all [CW [Ff a,Mz]]=JM (a&&b):=by let:([a,b].map D.bl)=[Ff a,Mz]:=rfl;rw[<-this,aax];simp
section
variable{st:sd}{d:D}{l:Linkage}(h:vg st d l)
include h
def gX(m n:Nat)(Z:k<Ah):IM (n+1) 3 [d,LM]=GA (Abo):=by
 let V:=Dz Z;let C:=h.idx V;let e:Abo=wC Mp:=by unfold uA;rw[V];rfl
 rw[ahD,Ap];rw[Uh,sgU,C,br,alk,e]
def alm(m n:Nat)(u:NK)(Z:k<Ah):IM (n+2) 4 [d,LM]=GA (Apk):=by
 let V:=Dz Z;let C:=h.idx V;let P:=gX h m n Z;rw[ahE,Ap];cases U:Fu Mp with
 |rider p q a b=>
  let j:=u k _ V;rw[U]at j;let Y:p<Ah:=by let:=j p IR;omega
  let H:q<Ah:=by let:=j q IR;omega
  let A:=gX h m n Y;let Q:=gX h m n H;rw[VE,w,Bcn,IL,tK,U]
  let e:Apk=(Aav&&Aet):=by unfold uV;rw[V];change(Bod Mp (Aav&&Aet))=_;rw[U]
  rw[Wl,f,ON 0 (sw Mp) (FF 2),Jh [HB,Amx],nJ,U]
  let L:=aA (cl:=Bb (n+1)) (it:=Et [Gf,(Bmj),2]) (i:=2) (j:=99) (b:=Axk 3) (ρ:=[Ea,J_,Ad]) (st:=st) (s:=Et [CN,HB,Amx]) (items:=[DA HB,DA Amx]) (λx=>Cpd [Ed,Apz PM]) [Cbn,C,f] (Bix [HB,Amx]) (by
   intro x O;let O:x=DA HB\/x=DA Amx:=by simpa using O
   rcases O with rfl|rfl;·rw[TY,Byj A]
   ·rw[TY,Byj Q]);rw[Ti,g,[Cnd p,DA Amx].map (λx:D×D=>Cpd [Ql,Apz PM])=[Ed Aav,Ed Aet]];rw[g]at L;simp only[sbU,↓L,csAll,C,br,w,ed,nL,e];try rfl
 |pin x y=>
  rw[VE,w,Bcn,HX,tK,U]
  let e:Apk=Abo:=by unfold uV uA;rw[V];change(Bod Mp (Aav&&Aet))=wC Mp;unfold wC;rw[U]
  rw[Uy,sbU,C,br,w,d6,P,e]
 |crank q r=>
  rw[VE,w,Bcn,FN,tK,U]
  let e:Apk=Abo:=by unfold uV uA;rw[V];change(Bod Mp (Aav&&Aet))=wC Mp;unfold wC;rw[U]
  rw[Uy,sbU,C,br,w,d7,P,e]
 |dyad p c q r=>
  rw[VE,w,Bcn,GB,tK,U]
  let e:Apk=Abo:=by unfold uV uA;rw[V];change(Bod Mp (Aav&&Aet))=wC Mp;unfold wC;rw[U]
  rw[Uy,sbU,C,br,w,d8,P,e]
def abD(m n:Nat)(e:Nat)(Z:k<Ah):IM (n+1) 5 [d,LM,Azx]=GA (sZ l k e):=by
 let V:=Dz Z;let C:=h.idx V;let f:=nJ (i:=Mp) (st:=st);rw[TW,g,∀(a b:Nat),FU a Cj=(a==b),a,b,by
  rw[Tv,a=b];·subst h;simp
  ·rw[MT];symm;simpa using h]
 let A:sZ l k e=([Cyn,Mp,e==p,e==p||e==q]):=by unfold sZ;rw[V];rfl
 rw[A,ahF,Ap];cases U:Fu Mp with
 |pin x y=>
  rw[VE,w,Bcn,HX,tK,U]
  rw[Ti,t,IB .vp (Rh) (CN Mu IK)=Cnr];rw[Uh,sbV,C,br,w,t]
 |rider p q a b=>
  rw[VE,w,Bcn,IL,tK,U]
  rw[Ti,t,IB .vp (PZ) (CN Mu IK)=Cnr];rw[Uh,sbV,C,br,w,t]
 |crank p r=>
  rw[VE,w,Bcn,FN,tK,U]
  rw[U]at f;rw[Ti,t,IB .vp (Mu) (CN Mu IK)=GA Aa];let I:IB .vp (Azx) (BH [HB])=GA (e==p):=by change Aam (Ql ((As [FU,e,Au p]==Bwm)||Af))=_;rw[nK,g,sdW]
  rw[Vj,sbV,C,br,w,f,t,Line.uses,I]
 |dyad p c q r=>
  rw[VE,w,Bcn,GB,tK,U]
  rw[U]at f;rw[Ti,t,IB .vp (IK) (CN Mu IK)=GA Aa];let I:IB .vp (Azx) (CN HB Amx)=GA (e==p||e==q):=by change Aam (Ql ((As [FU,e,Au p]==Bwm)||((As [FU,e,Au q]==Bwm)||Af)))=_;rw[nK,nK,g,g,sdW]
  rw[Vj,sbV,C,br,w,f,t,Line.uses,I]
def aln(m n:Nat)(Y:p<Ah)(Z:q<Ah):IM (n+2) 6 [d,HB,Amx]=GA (Pi l q):=by let V:=gX h m n Y;let Q:=gX h m n Z;let r:=abD h m n q Y;let v:=abD h m n p Z;unfold wD;rw[TK,Aav,A];rw[TK,Aet,B];rw[TK,sZ l p q,C];rw[TK,sZ l q p,e];rw[ahG,Ap];rw[Uh,sgV,V,Q,r,v];cases A<;>cases B<;>cases C<;>rw[Tr]<;>simp only[csAll,V,Q,r,v,vG,shZ,sdW,scu,sdF,seI]
end
def xh(l:Linkage):Al:=∀(k:Nat)N p q u v,CS=Ae [JF,N,p,q,u,v]->p≠q/\Pi l q=Aa
def sap(n:Nat)(i:Item)(p:Qb):Qb:=match i.line with|.pin _ _=>p.modify 0 [Boy,l++[n]]|.crank a _=>p++[[a,n]]|.dyad a _ b _=>p++[[a,n],[b,n]]|.rider a b _ _=>match p.findIdx? [Boy,Acp a&&Acp b]with|some k=>p.modify k [Boy,l++[n]]|none=>p
def abE(i:Item):∀(l:Linkage)(n:Nat)(p:Qb),piecesFrom Dt n p=sap (n+Ah) i (piecesFrom l n p)|[],n,p=>rfl|j::l,n,p=>by change piecesFrom Dt ..=sap _ i (piecesFrom l ..);rw[abE i l _];grind
def gY(i:Item)(l:Linkage):pieces Dt=sap Ah i (pieces l):=Acr pieces abE sal
def fK{l:Linkage}(h:k<Ah):(Dt)[k]?=CS:=xK h
def eg{l:Linkage}:(Dt)[Ah]?=Ju:=AY
def fL(h:k<Ah):Aza k=Abo:=Csb
def jB(h:k<Ah):sZ Dt k e=sZ l k e:=Auz sZ (fK h)
theorem sdV.init(u:sdV Dt):NK:=λk j C=>u k j Ag
def alo(u:NK)(h:k<Ah):Bgz k=Apk:=by unfold uV;rw[fK h,Dz h];change(Bod Mp (Aza p&&Aza q))=(Bod Mp (Aav&&Aet));cases U:Fu Mp with|rider p q a b=>let j:=u k _ (Dz h);rw[U]at j;let G:=j p IR;let z:=j q IR;change(Aza p&&Aza q)=_;rw[fL Ac,fL Ac]|_=>rfl
def auA(h:Abo=Aa):k<Ah:=Csb
def jC(h:sZ l k e=Aa):k<Ah:=by
 rw[Td,Z,k<Ah];·show Z
 ·rw[Tu,sZ];rw[Tg,Cci];rw[Tf]
def nM(h:Abo=Aa):Apk=Aa:=by grind[uA,uV,wC]
def abF(h:sZ l k e=Aa):Apk=Af:=by let Z:=jC h;rw[Tu,sZ];unfold uV;rw[Ud,Dz Z,h];rw[TM,([Cyn,Mp,e==p,e==p||e==q])=Aa];change(Bod Mp (Aav&&Aet))=Af;cases U:Fu Mp with|pin x y=>rw[Tg,U];rw[Tf]|rider a b c d=>rw[Tg,U];rw[Tf]|crank p r=>rfl|dyad p a q b=>rfl
structure sfw(l:Linkage)(G:Ak)(B:Qb):Al where
 eq:pieces l=G::B
 gr:Eu (k∈G↔k<Ah/\Apk=Aa)
 ba:∀P∈B,∃a n r,P=a::n::r/\sZ l n a=Aa
 al:∀n a,sZ l n a=Aa->∃r,(a::n::r)∈B
def abG(Y:p<Ah)(Z:q<Ah):Pi Dt q=Pi l q:=[Cna,wD,fL Y,fL Z,jB Y,jB Z]
theorem xh.init(u:sdV Dt)(r:xh Dt):xh l:=by intro k N p q a b h;rw[Vi,r k N p q a b Ag];let j:=u.init k _ h;let u1:=j p IR;let u2:=j q IR;grind[abG]
def alp{J:Bq}{l:LJ}{f:J->J}{x:J}(h:x∈Cwf f):x∈l\/∃y∈l,x=f y:=by
 rw[Wk,j,C,h];rw[List.getElem?_modify]at C;cases U:Anh with
 |none=>rw[U]at C;cases C
 |some y=>
  rw[U]at C;let K:=tV U;rw[Um,k=j];·simp[e]at C;rw[TN,Am y K C.symm]
  ·simp[e]at C;rw[TB,(by rw[<-C];show K)]
def alq{J:Bq}{l:LJ}{f:J->J}{y:J}(h:y∈l):y∈Cwf f\/f y∈Cwf f:=by
 rw[Wk,j,C,h];rw[Um,k=j];·rw[Uv,Der];grind
 ·rw[TB,(Der)];grind
def jD{i:Item}:Bgz Ah=(Dgn (Aza p&&Aza q)):=by unfold uV;rw[eg];rfl
def dL{i:Item}:sZ Dt Ah e=([Cyf,e==p,e==p||e==q]):=by grind[sZ]
def alr(u:sdV Dt)(o:xh Dt)(P:sfw l G B):∃G' L,sfw Dt G' L:=by
 let ui:=u.init;let m:=u Ah i eg;rw[UX,W,Bhi l,Ah+1,su,s0]
 let q:Eu (k<Ah->(k∈G↔k<Bhi l/\Bgz k=Aa)):=by
  intro k Z;rw[P.gr,alo ui Z,W];rw[TH];·rintro⟨_,h⟩;rw[Th,AE,h]
  ·rintro⟨_,h⟩;rw[Th,Z,h]
 rw[TW,O,∀k∈G,k<Ah,k,h,((P.gr k).mp h).1];let j:∀Q∈B,∃a n r,Q=a::n::r/\sZ Dt n a=Aa:=by intro Q h;rw[Tk,a,n,r,e,T,P.ba Q h];rw[TU,a,n,r,e,by rw[jB (jC T)];show T]
 let p:Bgz Ah=Af->Eu (k∈G↔k<Bhi l/\Bgz k=Aa):=by
  intro R k;rw[Td,Z,k<Ah];·show q k Z
  ·rw[TH];·rw[UH];rw[Ug,O k h,Z]
   ·rintro⟨K,z⟩;rw[W]at K;rw[Vr,k=Ah]
    rw[R]at z;cases z
 let C:Bgz Ah=Aa->Eu (k∈G++[Ah]↔k<Bhi l/\Bgz k=Aa):=by
  intro R k;rw[saf,sct];rw[Td,Z,k<Ah]
  ·rw[q k Z];rw[TH]
   ·rintro(h|h);·show h
    ·omega
   ·show GG OJ
  ·rw[TH]
   ·rintro(h|rfl);·rw[Ug,O k h,Z]
    ·rw[Th,AE,R]
   ·rintro⟨K,_⟩;rw[W]at K;rw[TN,Ac]
 let A:∀n a,n<Ah->sZ Dt n a=Aa->∃r,(a::n::r)∈B:=by intro n a f T;rw[jB f]at T;show P.al n a T
 let bl:∀n a,sZ Dt n a=Aa->n<Ah\/n=Ah:=by intro n a T;let:=jC T;rw[Tt,W];omega
 cases U:i.line with
 |pin x y=>
  show⟨G++[Ah],B,?_,C [Ni,jD,U],j,?_⟩;·rw[gY,P.eq,sap,U];rfl
  ·intro n a T;rw[Xr,n,a,T];·show A n a f T
   ·rw[dL,U]at T;cases T
 |crank a r=>
  show⟨G,B++[[a,Ah]],?_,p [Ni,jD,U],?_,?_⟩;·rw[gY,P.eq,sap,U];rfl
  ·intro Q H;rw[Wp,H];·show j Q h
   ·rw[Ul,Bab];show DP a Ah [] [Bfr,dL,U]
  ·intro n b T;rw[Xr,n,b,T];·rw[Tc,r,h,A n b f T];rw[Th,r,sfx _ h]
   ·rw[dL,U]at T;simp at T;subst T;rw[Th,[],AY]
 |dyad a c b e=>
  show⟨G,B++[[a,Ah],[b,Ah]],?_,p [Ni,jD,U],?_,?_⟩;·rw[gY,P.eq,sap,U];rfl
  ·intro Q H;rw[Wp,H];·show j Q h
   ·simp at h;rcases h with rfl|rfl;·show DP a Ah [] [Bfr,dL,U]
    ·show DP b Ah [] [Bfr,dL,U]
  ·intro n x T;rw[Xr,n,x,T];·rw[Tc,r,h,A n x f T];rw[Th,r,sfx _ h]
   ·rw[dL,U]at T;simp at T;rcases T with rfl|rfl<;>rw[Th,[],AY]
 |rider a b s t=>
  rw[U]at m;let M:=m a IR;let T:=m b IR;rw[Tc,w,sh,o Ah MU a b s t (by rw[eg,<-U])];rw[abG M T]at sh;let I:Bgz Ah=(Apz a&&Apz b):=by rw[jD,U];change(Aza a&&Aza b)=_;rw[fL M,fL T]
  rw[Td,Y,(Apz a&&Apz b)=Aa]
  ·rw[Tc,V,p2,Bool.and_eq_true_iff.mp Y];show⟨G++[Ah],B,?_,C [Ni,I,Y],j,?_⟩
   ·rw[gY,P.eq,sap,U];let g:Bpy a=Aa:=by rw[wE];show[Blo,P.gr a,M,nM V]
    let v:Bpy b=Aa:=by rw[wE];show[Blo,P.gr b,T,nM p2]
    let:(G::B).findIdx? (Boy (Acp a&&Acp b))=Ae 0:=Cmk List.findIdx?_cons g v
    change([Ded,(G::B),(Boy (Acp a&&Acp b)),(G::B).modify k [Css,x++[Ah]],G::B])=_;rw[this];rfl
   ·intro n x d;rw[Xr,n,x,d];·show A n x f d
    ·rw[dL,U]at d;cases d
  ·rw[uU]at Y;let N:(Bpy a&&Bpy b)=Af:=by
    rw[TC,wD,sh];rw[Y,sdF,vc]at sh;rcases sh with sh|sh
    ·let:=abF sh;let:Bpy a=Af:=by rw[<-uU,wE];rw[UH];let:=((P.gr a).mp h).2;simp_all
     rw[this];rfl
    ·let:=abF sh;let:Bpy b=Af:=by rw[<-uU,wE];rw[UH];let:=((P.gr b).mp h).2;simp_all
     rw[this,shZ]
   obtain⟨L,X,F,J⟩:∃L,pieces Dt=G::L/\(∀Q∈L,Q∈B\/∃y∈B,Q=y++[Ah])/\(∀y∈B,y∈L\/(y++[Ah])∈L):=by rw[gY,P.eq,sap,U];change∃L,([Ded,(G::B),(Boy (Acp a&&Acp b)),(G::B).modify k [Css,x++[Ah]],G::B])=_/\_;rw[List.findIdx?_cons,N];cases R:B.findIdx? (Boy (Acp a&&Acp b))with|none=>rw[Ts,B,Ab,λQ h=>OJ,λy h=>OJ]|some k=>rw[Ts,B.modify k [Css,x++[Ah]],Ab,λQ h=>alp h,λy h=>alq h]
   show⟨G,L,X,p [Ni,I,Y],?_,?_⟩
   ·intro Q H;rcases F Q H with h|⟨y,h,rfl⟩;·show j Q h
    ·rw[Tk,x,n,r,rfl,d,j y h];show DP x n (r++[Ah]) d
   ·intro n x d;rw[Xr,n,x,d]
    ·rw[Tc,r,h,A n x f d];rw[WS,J _ h];·rw[Th,r,h]
     ·rw[Th,r++[Ah],h]
    ·rw[dL,U]at d;cases d
def nO{J:Bq}{P:JH LJ}(H:P [])(h:∀l i,P l->P Dt):∀l,P l:=by
 let C:∀(n:Nat)(l:Afi),Ah=n->P l:=by
  intro n;induction n with
  |zero=>grind
  |succ n d=>
   intro l U;rw[UF,w,l,[],e,Aq]
   rw[<-List.dropLast_concat_getLast w];grind
 grind
def abH(l:Linkage):NK->xh l->∃G B,sfw l G B:=by
 show nO (P:=λl=>NK->xh l->∃G B,sfw l G B) ?_ ?_ l
 ·intro _ _;show⟨[],[],Ab,?_,AY,?_⟩;·intro k;simp
  ·intro n a h;let:=jC h;rw[XP]
 ·intro l i d u r;rw[Te,G,B,P,d u.init (r.init u)];show alr u r P
def jE(u:NK)(r:xh l)(Z:k<Ah):fixed l k=Apk:=by rw[Te,G,B,P,abH l u r];rw[fixed,P.eq];let:=P.gr k;grind
def nQ(u:NK)(r:xh l)(Y:p<Ah)(J:q<Ah)(w:p≠q):Bqn p q=Pi l q:=by
 rw[Te,G,B,P,abH l u r];let b:Eu ((Czj (Cxm))=Abo):=by intro k;unfold uA wC;cases CS<;>rfl
 let e:ends l=(G.filter [HN,Abo])::B.map λ(p:List Nat)=>p.take 2:=by unfold ends;rw[P.eq];change(G.filter [Bin,Czj (Cxm)])::_=_;congr 1;show sh_ λk _=>b k
 unfold together;rw[e,wQ,sdg];unfold wD;congr 1
 ·let g:Eu (k<Ah->IW (G.filter [HN,Abo]) k=Abo):=by intro k Z;cases T:Abo with|true=>rw[wE,saH];rw[Th,[Blo,P.gr k,Z,nM T],T]|false=>rw[<-uU,wE,saH];rw[UH];rw[Tg,T];cases Ck
  rw[g p Y,g q J]
 ·rw[sbC,saq,vc];rw[TH]
  ·rintro⟨Q,H,h⟩;rw[Tk,a,n,t,rfl,T,P.ba Q H];let z:(Akm [a,n] p&&Akm [a,n] q)=Aa:=h;rw[si,wE,wE]at z;simp at z;obtain⟨F|F,A|A⟩:=z;·omega
   ·subst F A;rw[TN,T]
   ·subst F A;rw[TB,T]
   ·omega
  ·rw[UH];let C:∀{n a:Nat},sZ l n a=Aa->∃Q∈B,∃t,Q=a::n::t:=by intro n a T;rw[Tc,t,I,P.al n a T];rw[Ts,_,I,t,Ab]
   rcases h with h|h;·rw[Tj,Q,H,t,rfl,C h];show HS _ H;change(Akm [q,p] p&&Akm [q,p] q)=Aa;simp
   ·rw[Tj,Q,H,t,rfl,C h];show HS _ H;change(Akm [p,q] p&&Akm [p,q] q)=Aa;simp
def xP(t:Ak):D:=Dq (t.map Cnj)
def sar(t:Ak)(k:Nat):uR:=Ll 5 [Amm,LM]
def uv(o:sd)(s:Nat)(t:Ak)(k:Nat):sd:=o.set s (sar t k)
def Rt(t:Ak)(k:Nat):Rest:=Aj Dn k
def tQ(t:Ak)(k:Nat):Aw:=(Cp).getD 256
def aV(t:Ak)(k n:Nat):(CD).on n=Hl (k+n):=by unfold Rt Rest.on;rw[TD];rw[sdX]
def bb(t:Ak)(k:Nat):(CD).head=Cp:=by unfold Rt Rest.head;rw[TD];rw[List.head?_drop]
section
variable{st:sd}{s:Nat}{t:List Nat}(hs:s<st.length)(hb:∀c∈t,c<256)
def df:Cox=Iv:=Auz uv wv
def als:Ip FK s (sar t X)=Ri:=Auz uv sdY
include hs in theorem sfy:(FK)[s]?=As (sar t k):=Auz uv (yN hs)
include hs in theorem sjO:Akq FK 5 (Ih) (FF 0)=Bwu:=by rw[VC,wx,Bue,sar];rfl
include hs in theorem sh0:Akq FK 5 (Ih) (FF 1)=J_:=by rw[VC,wx,Bue,sar];rfl
include hs in theorem slv{U:sM}:Mo r (Bag 5 1) (Ka::U) FK=DJ (Ka::U) (EN (k+1)):=by
 rw[Ti,h,uj (Ka::U) 0=Ka];rw[UO,f,As (D.cell s)::U,A];rw[Ti,e,Mo r (Bag 5 1) A FK=Ati (ev r Bf A FK) λ(x:D)(st:sd)=>(match[Ati,wx st 5 x,FF 1]with|some (D.int a)=>Ati (ev r QL A st) λ(v:D)(st:sd)=>(Cpc (match wY st x 5 1 (Ec (a+b))with|some st=>Cef A|none=>AJ))|_=>AJ)];rw[e,aaq,h];let B:wY FK (Ih) 5 1 (Ec (Ey+1))=As [EN,(k+1)]:=by unfold wY;rw[TD];rw[Bue];change(CH (5=5/\1<2) [As,Ip FK s (Ll 5 [Amm,Ec (Ey+1)])] Ad)=_;rw[Av [Q_,DC]];show vo Aul als
 simp only[aap,bJ,Dk,ajB,B]
include hs in theorem sdZ(m n:Nat)(Z:Je):KD (n+1) 68 [Ih]=Azg [AT,tQ t k]:=by
 rw[XF,H,Bpk FK [Amm],Azg [AT,AH],xP,iS,sr]
 rw[ais,Ap];rw[Tv,k=AH]
 ·let e:tQ t k=256:=by unfold tQ;rw[Cci];rfl
  let d:AQ Ey Buh=Aa:=Db;rw[UN,seZ,sjO hs,Dk,H,d,e];rfl
 ·rw[Uc,x,k<AH]
  rw[UW,d,AQ Ey Buh=Af];let e:tQ t k=t[k]:=by unfold tQ;rw[Dz x];rfl
  let C:y_ FK (Amm) (LM)=Azg [AT,tQ t k]:=by unfold xP;rw[aat];unfold vr;rw[Nj,sP,tD,Dz x,e];rfl
  rw[UN,seZ,sjO hs,Dk,H,d,C]
def vP(t:Ak)(k:Nat):Bh:=SW Cp Awb
def alt:(Amk 48 [Au,tQ t k]&&Amk (tQ t k) 57)=vP t k:=by
 unfold vP tQ;cases h:Cp with
 |none=>decide
 |some c=>
  change(Amk 48 Gg&&Bn Gg 57)=Awj c;unfold isDigit;congr 1
  ·rw[Tv,48<=c];·rw[Abb,Db]
   ·rw[OL,MT]
  ·rw[Tv,c<=57];·rw[Abb,Db]
   ·rw[OL,MT]
include hs in theorem sfz(m n:Nat)(Z:Je):KD (n+2) 69 [Ih]=Azg [Ed,vP t k]:=by let g:=sdZ hs m n Z;rw[ait,Ap,<-alt];rw[UK,shs,g];cases Amk 48 [Au,tQ t k]<;>rw[Vt,g,vG]
include hs in theorem sh1(m n:Nat){c:Nat}(Z:Je)(L:c<256):KD (n+2) 70 [Ih,AT c]=[CH,Cp=AW,Ew Bt (EN (k+1)),CM [-6,1,Ey] FK]:=by
 let g:=sdZ hs m n Z;rw[aiu,Ap];let Q:∀A,Ato [DJ,A,(EN (k+1))]=Ew Bt (EN (k+1)):=by intro A;rw[df,<-df (k:=k+1)];show ajI
 rw[Tv,Cp=AW];·let e:Bln t k Gg=Aa:=Bx (by unfold tQ;rw[h];rfl);rw[NA];rw[Uh,se_,g,e,OB,Q]
 ·let e:Bln t k Gg=Af:=by show sd_ λq=>h ?_;rw[TC,tQ,q];cases I:Cp with|none=>rw[UI,I];let q:Clv=Gg:=q;omega|some x=>rw[UI,I];let q:Ay x=Gg:=q;congr 1;omega
  rw[Nw];rw[UN,se_,g,e,Dk,sL,sC]
end
def scv(t:Ak)(k:Nat):Ak:=(Dn).takeWhile Awb
def nR:∀{l:Ak}{j:Nat},j<An Cqt->∃c,Anh=AW/\p c=Aa/\(Cqt)[j]?=AW
|[],j,h=>Azs
|a::l,j,h=>by
 rw[Ud,sfA,h];rw[Um,p a=Aa];·cases j with|zero=>grind|succ j=>rw[Tj,c,G,z,F,nR (p:=p) (l:=l) (j:=j) Ag];grind
 ·grind
def abI:∀{l:Ak},SW l[An Cqt]? p=Af
|[]=>AY
|a::l=>by
 rw[sfA];rw[Um,p a=Aa];·rw[Av e];show abI
 ·grind
def ei(h:j<OE):∃c,t[k+j]?=AW/\Awj c=Aa/\(GS)[j]?=AW:=by rw[Tj,c,G,z,F,nR h];rw[T_,sd0];rw[Ts,c,G,z,F]
def jF:vP t (k+OE)=Af:=by let:=abI (p:=isDigit) (l:=Dn);rw[Tt,sd0];rw[TQ]
def jG(Z:Je):Aay (k+OE):=by grind[List.takeWhile_prefix,scv]
def abJ(l:Ak)(c:Nat):Aqa (l++OG)=10*valueOf10 l+(c-48):=by grind[valueOf10]
def nS:∀(l:Ak),(∀c∈l,Awj c=Aa)->valueOf10 l<10^Ah:=by
 show nO ?_ ?_;·decide
 ·intro l c d h;let G:=d λx O=>h x Ag;let z:=h c AN;rw[isDigit,si]at z;let F:=Cm Hf;rw[abJ,su,s0];omega
section
variable{st:sd}{s:Nat}{t:List Nat}(hs:s<st.length)
include hs
def nU(m n:Nat)(K:5<m){most:Nat}(Z:Je)(F:Ie<=3):KD (n+3) 71 [Ih,AT Ie]=[Alu,Bkj (GS)=48,CM [-6,1,Ey] FK,[CH,Ie<OE,CM [-6,1,Ay (k+Ie)] (EN (k+Ie)),Dr Cwy [EN,(k+OE)]]]:=by
 let X:=sfz hs m n Z;let g:=sdZ hs m (n+1) Z;let l:=jG Z;rw[aiv,Ap];rw[Td,H,Bkj (GS)=48]
 ·rw[Av H];cases B:vP t k with
  |false=>rw[B]at X;rw[Uh,sb6,Dk,X,sL,sC]
  |true=>
   let z:Bln t k 48=Aa:=by
    let u:Abt GS:=by let:=jF (t:=t) (k:=k);grind
    let I:0<OE:=sh2.mpr u;rw[Tj,c,c1,_,M,ei I];let:c=48:=by rw[sjP,List.head?_eq_getElem?,M]at H;show H
    rw[scp]at c1;show Bx (by unfold tQ;rw[c1,this];rfl)
   rw[B]at X;rw[Uy,sb6,Dk,X,g,z,sL,sC]
 ·rw[AF H];rw[UF,u,GS,[],e,H (DY e)];let I:0<OE:=sh2.mpr u;rw[Tj,c,c1,P,M,ei I];rw[scp]at c1;let B:vP t k=Aa:=by unfold vP;rw[c1];show P
  let z:Bln t k 48=Af:=by show sd_ λq=>H ?_;rw[TC,tQ,q];rw[UI,c1];let q:Ay c=48:=q;rw[sjP,List.head?_eq_getElem?,M];change c=48;omega
  rw[B]at X;let b:=fg (cl:=Bb (n+2)) (m:=m) (c:=Cco) (b:=QA [Afq,Bhc (Ot (Air) Df),Axh] [F_,3,Ot (ED [Ge,BJ,EM 10] Aqn) Cbo] [Bag,5,1]) (λA V=>∃j,j<=OE/\j<=Ie/\A=[Ka,Cd Ie,J_,Cd [Aqa,Hu GS j]]/\V=EN (k+j)) [KJ,V,Cyq V[s]? (Ie+1+k-PM)] (λr=>(Ie<OE/\r=CM [-6,1,Ay (k+Ie)] (EN (k+Ie)))\/(¬Ie<OE/\r=DJ [Ka,Cd Ie,J_,Cd [Aqa,GS]] (EN (k+OE)))) (by
   rintro A V⟨j,o,W,rfl,rfl⟩;let a:=sfz (t:=t) hs m n (k:=k+j) Ac;let h:=sdZ (t:=t) hs m (n+1) (k:=k+j) Ac;rw[Td,C,j=OE]
   ·let e:vP t (k+j)=Af:=by rw[C];show jF
    rw[e]at a;show FJ [Ala,a] [Bw,FY AE];rw[C,yt]
   ·rw[Tj,c,c1,P,M,ei (t:=t) (k:=k) (j:=j) Ac];let e:vP t (k+j)=Aa:=by unfold vP;rw[c1];show P
    rw[e]at a;let N:tQ t (k+j)=c:=by unfold tQ;rw[c1];rfl
    rw[Tg,N];rw[TN,FY [Ala,a]];rw[Td,p,j=Ie];·let G:[AQ,Ay (k+j)-Ey,Au Ie]=Aa:=Db;rw[VX,⟨[-6,1,Ay (k+j)],EN (k+j),?_,FJ AE [Asc,p]⟩];rw[WF,Dk,G,sL,sC]
    ·rw[UW,G,[AQ,Ay (k+j)-Ey,Au Ie]=Af];let d:∀x∈Hu GS j,Awj x=Aa:=by intro x O;rw[Wk,i,L,(scw O)];rw[Tj,y,_,R,T,ei (t:=t) (k:=k) (j:=i) (Dj L).1];rw[L]at T;rw[Ul,GF T];show R
     let w:=nS _ d;let Y:10^An [Hu,GS,j]<=10^3:=Mc (Fb ug);let f:tj [Au,Aqa [Hu,GS,j]] 10=Aa:=Ps 10 4 NG Dc;let v:48<=c:=by rw[TC,isDigit,P];rw[si]at P;show Cm P.1
     let J:Au [Aqa,Hu GS j]*10+Gg-48=Au [Aqa,Hu GS (j+1)]:=by rw[nr M,abJ];omega
     rw[TB,⟨[Ka,Cd Ie,J_,Cd [Aqa,Hu GS (j+1)]],EN (k+j+1),?_,DP (j+1) AE AE Ab,?_⟩];·simp only[csAll,Dk,G,f,h,J,OB]
     ·rw[Bue,Bue];change Ie+1+k-DQ [Ay,k+j+1]<Ie+1+k-DQ [Ay,k+j];rw[sP,sP];omega) [Ka,Cd Ie,J_,Ae GO] FK [DP,0,AE,AE,Ab] (by rw[Bue];change Ie+1+k-DQ Ey<m;rw[sP];omega);rcases b with⟨U,b⟩|⟨U,b⟩
  ·rw[Av U];let Q:sdn Cox (CM [-6,1,Ay (k+Ie)] (EN (k+Ie)):Mr)=CM [-6,1,Ay (k+Ie)] (EN (k+Ie)):=by rw[df,<-df (k:=k+Ie)];show aas
   rw[Uy,sb6,Dk,X,g,z,b,Q]
  ·rw[AF U];let Q:Ato [Amv,Cwy,EN (k+OE)]=Dr Cwy [EN,(k+OE)]:=by rw[df,<-df (k:=k+OE)];show aar
   rw[Uy,sb6,Dk,X,g,z,b,Q]
end
def Gt{J:Bq}(o:sd)(s:Nat)(t:Ak)(A:J->D)(d:KL):JH Asm|.ok (a,r)=>d=[Dr,A a,uv o s t Acs]/\r=Hl Acs/\Aay Acs|.error e=>∃X,d=CM [-6,1,LG] (uv o s t X)
def gZ(t:Ak)(k:Nat):Bnh=Dcm Axr [DZ,c=48,(if l=[]then PL 0 (k+1)else Gy (k+1)),[CH,3<OE,Gy (k+3),PL [Aqa,GS] (k+OE)]]:=by change(Dcm _ _)=_;cases h:GS with|nil=>rfl|cons c l=>rw[aV,aV,show List.takeWhile _ (CD).text=c::l from h];rfl
def nV(h:Bnh=KY v):Dm v:=by
 rw[Tg,gZ];cases j:GS with
 |nil=>grind
 |cons c l=>
  rw[Tg,j];rw[Vb,h];rw[Tn];·grind
  ·rw[Tn];·grind
   ·let d:∀x∈GS,Awj x=Aa:=by intro x O;rw[Wk,i,V,O];grind[ei]
    let o:=nS _ d;let Y:10^IV c l<=10^3:=OF;grind
section
variable{st:sd}{s:Nat}{t:List Nat}(hs:s<st.length)
include hs
def jH(h:Abi=Aa):Ato [Dr,Bbh,Ri]=Jd (Ri):=by rw[fe,NA,df,<-df,yt]
def alu:Ato [Amv,Aeq,Ri]=Dr Aeq Ri:=jH hs Ab
def alv:Ato [Amv,BH z,Ri]=Dr [BH,z] Ri:=jH hs Ab
def alw:Ato [CM,x,(Ri)]=CM x (Ri):=by grind[df,aas]
def abK(m n:Nat)(K:5<m)(Z:Je):SK (Csk v) (KD (n+4) 72 [Ih]) (Bnh):=by
 let g:=Bze m (n+2) Z;let A:=nU (t:=t) hs m n K (most:=3) Z Ac;let l:=jG Z;rw[gZ,aiw,Ap];rw[Tv,Cp=Ae 48]
 ·let z:Bln t k 48=Aa:=Bx (by grind[tQ]);let o:Aay (k+1):=Abh;let X:=sfz (t:=t) hs m (n+1) (k:=k+1) o;let f:GS=48::QB (k+1):=by
   unfold scv;let:Dn=48::Adl (k+1):=by rw[YS]
   rw[this,sfA];rfl
  rw[f];rw[TD];cases j:vP t (k+1)with
  |true=>
   rw[j]at X;let w:Abt [QB,(k+1)]:=by let:=jF (t:=t) (k:=k+1);grind
   rw[AF w];rw[Uf,k+1];simp only[sa_,csAll,g,z,OB,X,Dk,sL,sC,Cs]
  |false=>
   rw[j]at X;let e:QB (k+1)=[]:=by cases O:QB (k+1)with|nil=>rfl|cons x y=>rw[Tj,c,c1,P,_,[Cor,k+1,Bjh O]];rw[TC,vP,j];rw[c1]at j;let j:Awj c=Af:=j;rw[P]at j;cases j
   rw[Av e];show Mg Ab o;rw[UN,sa_,g,z,OB,X,Brq];rfl
 ·let z:Bln t k 48=Af:=by show sd_ λq=>h ?_;rw[TC,tQ,q];cases I:Cp with|none=>rw[UI,I];let q:Clv=48:=q;omega|some x=>rw[UI,I];let q:Ay x=48:=q;congr 1;omega
  let a:Bkj (GS)=48↔GS=[]:=by
   cases O:GS with
   |nil=>simp
   |cons x y=>
    rw[Tj,c,c1,P,M,ei (t:=t) (k:=k) (j:=0) [Bjh,O]];rw[O]at M;let:x=c:=Ddb
    rw[scp]at c1;rw[TH];·intro e;let e:x=48:=e;rw[T',(by rw[c1,<-this,e]),h]
    ·intro e;rw[Tr]
  cases O:GS with
  |nil=>rw[Ux,(a.mpr O),A];rw[Uf,k];rw[Ti,r,Au 3=Ay 3];rw[UN,sa_,g,z,r,A,Cs]
  |cons x y=>
   rw[Tx,N,¬Bkj (GS)=48,e,by let:=a.mp e;rw[Tt,O];rw[Ve]]
   rw[UF,b,x,48,e,N (by rw[O,e];rfl)];rw[Uz,N,A];rw[TD];rw[AF b];rw[Ti,r,Au 3=Ay 3];rw[O]at A l;rw[Td,F,3<IV x y];·rw[TX,F,A];rw[Uf,k+3];simp only[sa_,csAll,g,z,r,Cs]at A|-;rw[A];rw[UM,Cs]
   ·rw[TR,F,A];show Mg Ab l;simp only[sa_,csAll,g,z,r]at A|-;rw[A];rw[UM,Brq];rfl
end
def nW{c:Nat}(L:c<256):Bln t k Gg=AQ Cp AW:=by grind[tQ]
section
variable{st:sd}{s:Nat}{t:List Nat}(hs:s<st.length)
include hs
def alx(m n:Nat)(K:5<m)(Z:Je):SK (λ(v:Int)=>JS v) (KD (n+5) 73 [Ih]) (Bni):=by
 let g:=Bze m (n+3) Z;let C:=abK (t:=t) hs m n K Z;let z:=nW (t:=t) (k:=k) (c:=45) Ac;rw[Ti,I,Ay 45=45];rw[I]at z;rw[Yr];rw[bb,aV,bb,aix,Ap];rw[Tv,Cp=Ae 45]
 ·rw[NA];rw[Abb]at z;let o:Aay (k+1):=Abh;let A:=nU (t:=t) hs m (n+1) K (k:=k+1) (most:=3) o Ac;rw[Ti,r,Au 3=Ay 3];let l:=jG o;rw[Td,H,t[k+1]?=Ae 48]
  ·rw[Av H];let j:Bkj (QB (k+1))=48:=by cases O:QB (k+1)with|nil=>rfl|cons x y=>rw[Tj,c,c1,P,M,Cor (k+1) Ag];grind
   rw[Ux,j,A];rw[Uf,k+1];rw[Uy,zY,g,z,OB,r,A,Cs];rfl
  ·rw[AF H,gZ];let a:Bkj (QB (k+1))=48↔QB (k+1)=[]:=by
    cases O:QB (k+1)with
    |nil=>simp
    |cons x y=>
     rw[Tj,c,c1,P,M,[Cor,k+1,Bjh O]];rw[O]at M;let:x=c:=Ddb
     rw[TH];·intro e;let e:x=48:=e;rw[T',(by rw[c1,<-this,e]),H]
     ·intro e;rw[Tr]
   cases O:QB (k+1)with
   |nil=>rw[Ux,(a.mpr O),A];rw[Uf,k+1];rw[Uy,zY,g,z,OB,r,A,Cs]
   |cons x y=>
    rw[Tx,N,¬Bkj (QB (k+1))=48,e,by let:=a.mp e;rw[Tt,O];rw[Ve]]
    rw[UF,b,x,48,e,N (by rw[O,e];rfl)];rw[Uz,N,A];rw[TD];rw[AF b];rw[O]at A l;rw[Td,F,3<IV x y];·rw[TX,F,A];rw[Uf,k+1+3];simp only[zY,csAll,g,z,OB,r]at A|-;rw[A];rw[UM,Cs]
    ·rw[TR,F,A];show Mg Ab l;simp only[zY,csAll,g,z,OB,r]at A|-;rw[A];rw[UM,Brq];rfl
 ·rw[Nw];rw[OL]at z;cases f:Bnh with|error e=>rw[f]at C;obtain⟨X,B⟩:=C;show Ha;rw[Uh,zY,g,z,B,Cs]|ok x=>rw[f]at C;obtain⟨G,J,F⟩:=C;show Mg J F;rw[Uh,zY,g,z,G,Brq]
end
def nX(h:Bni=KY z):Bxb:=by
 rw[signed,aV]at h;rw[Tn]
 ·rw[Tn];·grind
  ·cases f:Bio (Hl (k+1))with|error e=>grind|ok x=>let:=nV f;grind
 ·cases f:Bnh with|error e=>grind|ok x=>let:=nV f;grind
def abL(a b:Nat):[Au,a].fmod Cj=Ay (a%b):=Aq
def nY(m n:Nat)(o:sd)(a:Int)(d:Nat)(K:d<m):Fa 1 7 Agq Azc=BN [AT,N_ a d]:=by
 rw[Tq,c,([Gz,a<0,-a,a])=Aau]
 let b:=fg (cl:=LX) (c:=Auc .ne AL) (b:=[QU,2,Bbs .mod Bf,.set 0 AL,F_ 1 Df]) (λA V=>∃(x y:Nat)(z:LI),A=[Dv x,Dv y,z]/\V=o/\Nat.gcd x y=Nat.gcd _ d) (λA _=>match A with|[_,some (.int y),_]=>y.toNat|_=>0) (λr=>∃(y z:LI),r=Arq [Dv (N_ a d),y,z]) (by
  rintro A V⟨x,y,z,rfl,rfl,J⟩;rw[Tv,y=0];·subst h;rw[TB,⟨Ch,Dv ((0)),z,?_⟩];grind
  ·rw[UW,s,FU y 0=Af];let B:Sf [Au,y]=Aa:=Db;show [Kq,Ala s,AK ⟨[Dv y,Dv (Cn (x%y)),Dv (Cn (x%y))],_,?_,⟨y,x%y,_,Ab,Ab,?_⟩,?_⟩];·rw[Vt,B,abL]
   ·rw[<-J,Nat.gcd_comm x y,Nat.gcd_rec y x,Nat.gcd_comm]
   ·change Ahj (x%y)<Ahj y;show sdH _ Ac) [Dv Aau,Dv d,Ad] _ [Ds,_,_,_,Ab,Ab,Ab] (by change Ahj d<m;show K);obtain⟨y,z,U⟩:=b;rw[ahH,Ap];rw[VQ,sgW,c,U]
def aly(z:Int):wg [Co,z]=Aql z Akl:=rfl
def g_{z:Int}(j:CV d)(h:N_ z d=1):(Co z/Co d)=AO z d j h:=by rw[Ti,e,Co d=Bke d];rw[e,<-sd1];show Om (Rat.mk_eq_divInt ..)
section
variable{st:sd}{s:Nat}{t:List Nat}(hs:s<st.length)
include hs
def alz(m n:Nat)(K:BI<m)(Z:Je):SK wg (KD (n+6) 74 [Ih]) (Cao CD):=by
 let b:=Ckg m n Ac Z;unfold fraction;rw[aiy,Ap];cases J:Bni with
 |error e=>rw[J]at b;rw[Xd,B];show Ha;rw[UA,zd,Dk,B,Cs]
 |ok x=>
  rw[UR,z];rw[J]at b;rw[Xf,N,F];let c:=nX J;rw[UO,C,CF,j];subst N;let g:=Bze m (n+4) F;let I:=nW (t:=t) (k:=j) (c:=47) Ac;rw[Avb [Ay,47] 47]at I;rw[TD];rw[bb,aV];rw[Tv,t[j]?=Ae 47]
  ·rw[AF Cqb];rw[Abb]at I;let o:Aay (j+1):=Abh;let L:=abK (t:=t) hs m (n+1) Ac o;cases f:Bio (Hl (j+1))with
   |error e=>rw[f]at L;obtain⟨X,B⟩:=L;show Ha;rw[Vj,zd,Dk,G,g,I,OB,B,Cs]
   |ok x=>
    rw[Uq,d,R];rw[f]at L;rw[WH,u1,u2,r];let O:=nV f;rw[UO,H,Asu,A];subst u2;let a:=nY m (n+4) (EN A) z d Ac;let c1:Amk 2 Ajf=Bn 2 d:=by
     rw[Tv,2<=d];·rw[Abb];show Db
     ·rw[OL];show MT
    let P:Amk d 20=Bn d 20:=by
     rw[Tv,d<=20];·rw[Abb];show Db
     ·rw[OL];show MT
    let M:AQ [Ay,N_ z d] 1=AQ [N_,z,d] 1:=by
     rw[Tv,N_ z d=1];·rw[Abb];show Db
     ·rw[OL];show MT
    rw[TD];rw[Td,V,2<=d]
    ·rw[Td,Q,d<=20]
     ·rw[Td,Y,N_ z d=1]
      ·rw[Cdy];rw[Bx V]at c1;rw[Bx Q]at P;rw[Bx Y]at M;show[Mg,Asc H,by rw[H];show r];rw[H]at*;let U:wg (Co z/Co d)=Aql z Azc:=DY (g_ Ac Y)
       rw[U];simp only[zd,csAll,Dk,G,g,I,OB,u1,c1,P,a,M,Bkz];try rfl
      ·rw[Nj];rw[Bx V]at c1;rw[Bx Q]at P;rw[B_ Y]at M;rw[Uf,A];simp only[zd,csAll,Dk,G,g,I,OB,u1,c1,P,a,M,sL,sC,Cs];try rfl
     ·rw[Nj];rw[Bx V]at c1;rw[B_ Q]at P;rw[Uf,A];simp only[zd,csAll,Dk,G,g,I,OB,u1,c1,P,a,sL,sC,Cs];try rfl
    ·rw[Nj];rw[B_ V]at c1;rw[Uf,A];simp only[zd,csAll,Dk,G,g,I,OB,u1,c1,a,sL,sC,Cs];try rfl
  ·rw[Av Cqb,Cdy];rw[OL]at I;show[Mg,Asc C,by rw[C];show F];rw[C];rw[Uy,zd,Dk,G,g,I,aly,Bkz];try rfl
def abM(m n:Nat)(K:5<m)(Z:Je):SK t8 (KD (n+4) 75 [Ih]) (Awk CD):=by
 let g:=Bze m (n+2) Z;unfold Lk.name;rw[bb,aV,aiz,Ap];cases h:Cp with
 |none=>
  let N:tQ t k=256:=by unfold tQ;rw[h];rfl
  rw[N]at g;rw[Uf,k];let d:Amk 65 Clv=Aa:=DC
  let I:Bn Clv 90=Af:=DC
  rw[Vj,ze,g,d,I,Dk,sL,sC,Cs];try rfl
 |some c=>
  let N:tQ t k=c:=by unfold tQ;rw[h];rfl
  rw[N]at g;let o:Aay (k+1):=Abh;rw[TD];rw[Td,L,c<65\/90<c]
  ·rw[Av L];rw[Uf,k];rw[Td,a,65<=c];·let d:Amk 65 Gg=Aa:=Db;rw[UW,I,Bn Gg 90=Af];rw[Vj,ze,g,d,I,Dk,sL,sC,Cs];try rfl
   ·rw[UW,d,Amk 65 Gg=Af];rw[Uy,ze,g,d,Dk,sL,sC,Cs];try rfl
  ·rw[AF L];let d:Amk 65 Gg=Aa:=Db;let I:Bn Gg 90=Aa:=Db;let X:=sfz (t:=t) hs m (n+1) o;let A:=nU (t:=t) hs m n K (k:=k+1) (most:=2) o Ac;let l:=jG o;rw[Ti,T,Rq=Ay 2];rw[Ti,p,Csg (Hl (k+1)) Awb=QB (k+1)];rw[p];cases O:QB (k+1)with
   |nil=>
    let j:vP t (k+1)=Af:=by let:=jF (t:=t) (k:=k+1);rw[O,sdk,scp]at this;rw[TQ]
    rw[j]at X;rw[Bmy,Bmy];rw[aV];show Mg Ab o;rw[Uy,ze,g,d,I,OB,X,Bkz];try rfl
   |cons x y=>
    rw[Tj,b,r,v,C,[Cor,k+1,Bjh O]];let j:vP t (k+1)=Aa:=by unfold vP;rw[scp]at r;rw[r];show v
    rw[j]at X;rw[O]at A l;change SK t8 _ [Oy,x=48];let B:NU (n+3) 71 [Ih,Axx 2] (EN (k+1))=[CH,x=48,CM [-6,1,Ay (k+1)] (EN (k+1)),[CH,2<IV x y,CM [-6,1,Ay (k+1+2)] (EN (k+1+2)),[Dr,AT [Aqa,x::y],EN (k+1+IV x y)]]]:=A;rw[Td,H,x=48];·rw[TX,H,B];rw[Uf,k+1];simp only[ze,csAll,g,d,I,OB,X,T]at B|-;rw[B];rw[UM,Cs];try rfl
    ·rw[TR,H,B];rw[UG,2<IV x y];·rw[TX,z,B];rw[Uf,k+1+2];simp only[ze,csAll,g,d,I,OB,X,T]at B|-;rw[B];rw[UM,Cs];try rfl
     ·rw[TR,z,B];rw[aV,FZ (k+(1+IV x y)=k+1+IV x y)];show Mg Ab l;simp only[ze,csAll,g,d,I,OB,X,T]at B|-;rw[B];rw[UM,Bkz];try rfl
end
def fM(f:Rest->Asm)(t:Ak)(k:Nat):Sr f CD=[CH,Cp=Asx,f (Hl (k+1)),Axr]:=by
 rw[then_,want,bb,aV];rw[Tv,Cp=Asx];·grind
 ·rw[Nw,Nw];rfl
def abN{l:Linkage}:(Cmc (MU==n))=OC (Sh n):=Aq
def auB(o:Aai):wy (wB o)=Bvj o:=by cases o<;>rfl
def xQ(l:Linkage)(m:BU Aw)(t:Ak)(k:Nat):Got Aw:=GI [Bjl,CD] p q [CH,m p=Af,Gy (k+1),KY p]
section
variable{st:sd}{s:Nat}{t:List Nat}(hs:s<st.length){d:D}{l:Linkage}(hL:∀k,vg (uv st s t k) d l)
include hs
def fN(m n:Nat)(Z:Je):KD (n+2) 70 [Ih,AZ 32]=[CH,Cp=Asx,Ew Bt (EN (k+1)),CM [-6,1,Ey] FK]:=sh1 hs m n (c:=32) Z Ac
def nZ(m n:Nat)(K:BI<m)(Z:Je):SK (Csk v) (KD (n+6) 79 [Ih]) (Oe CD):=by
 let A:=fN hs m (n+3) Z;rw[fM,aiD,Ap];rw[Tv,Cp=Asx]
 ·rw[TX,h,A];let o:=Abh;let b:=Ckg m n Ac o;unfold length_;cases J:Aqu (Hl (k+1))with
  |error e=>rw[J]at b;rw[Xd,B];show Ha;rw[Uh,sb8,A,Dk,B,Cs]
  |ok x=>
   rw[UR,z];rw[J]at b;rw[Xf,H,F];let c:=nX J;rw[UO,C,CF,j];subst H;rw[TD];let T:NU (n+5) 9 [Aeq] (EN j)=Dr [Ed,Bn 1 z&&Bn z GV] [EN,j]:=by rw[rQ,Ap];rw[XT,seS];cases Bn 1 z<;>rw[UM,vG]
   rw[Td,p,z<1];·rw[Av (AK p)];rw[MT,vG]at T;rw[Uf,j];rw[Vj,sb8,A,Dk,G,T,sL,sC,Cs];try rfl
   ·rw[Cdy];rw[Db,Db]at T;show Mg [Asc,C] F;rw[C];change _=SG (JS (GD)) _;rw[Of ((GD)=z)];rw[UN,sb8,A,Dk,G,T,Brq]
 ·rw[TR,h,A];rw[Uf,k];rw[UK,sb8,A]
def abO(m n:Nat)(K:BI<m)(Z:Je):SK wg (KD (n+7) 80 [Ih]) (Bok CD):=by
 let A:=fN hs m (n+4) Z;rw[fM,aiE,Ap];rw[Tv,Cp=Asx];·rw[TX,h,A];let b:=alz hs m n K (Abh);cases J:Cao _ with|error e=>rw[J]at b;rw[Xd,B];show Ha;rw[UA,sdv,A,B,Cs]|ok x=>rw[UR,z];rw[J]at b;rw[Xf,H,F];show Mg H F;rw[Ti,C,wg z=BH _];rw[Uh,sdv,A,G,C,Bkz]
 ·rw[TR,h,A];rw[Uf,k];rw[UK,sdv,A]
include hL
def jI(m n:Nat)(K:5<m)(Z:Je):SK t8 (KD (n+5) 77 [Ih,d]) (Sr (Aqe) CD):=by
 let A:=fN hs m (n+2) Z;rw[fM,aiB,Ap];rw[Tv,Cp=Asx];·rw[TX,h,A];let b:=abM hs m n K (Abh);unfold newName;cases J:Awk _ with|error e=>rw[J]at b;rw[Xd,B];show Ha;rw[Uh,sb7,A,Dk,B,Cs]|ok x=>rw[UR,z];rw[J]at b;rw[Xf,H,F];let I:=jA (hL CF) m (n+3) z;rw[TD];rw[abN];cases R:Cir _ with|none=>rw[R]at I;show Mg H F;rw[Ti,C,t8 z=BH _];rw[C]at G I|-;rw[Uy,sb7,A,Dk,G,I,wB,Bkz]|some i=>rw[R]at I;rw[Uf,CF];simp only[sb7,csAll,A,Dk,G,I,wB,sL,sC,Cs];try rfl
 ·rw[TR,h,A];rw[Uf,k];rw[UK,sb7,A]
def g0(m n:Nat)(K:5<m)(Z:Je)(M:∀X p,p<Ah->NU (n+4) f (HB::vs) (Ri)=Dr [Ed,may p] Ri):SK (Csk v) (KD (n+5) 78 [Ih,d,.sG f vs]) (xQ l may t k):=by
 let A:=fN hs m (n+2) Z;unfold xQ;rw[fM,aiC,Ap];rw[Tv,Cp=Asx]
 ·rw[TX,h,A];let o:=Abh;let b:=abM (t:=t) hs m n K o;unfold known;cases J:Awk (Hl (k+1))with
  |error e=>rw[J]at b;rw[Xd,B];show Ha;rw[Uh,sa0,A,Dk,B,Cs]
  |ok x=>
   rw[UR,z];rw[J]at b;rw[Xf,C,F];let I:=jA (hL CF) m (n+3) z;rw[TD];cases R:Sh z with
   |none=>rw[R]at I;rw[Uf,CF];simp only[sa0,csAll,A,Dk,G,I,wB,sL,sC,Cs];rfl
   |some i=>
    rw[R]at I;let T:i<Ah:=by let:=sh3.mp R;grind
    let O:=M CF i T;change SK _ _ ([CH,may i=Af,Gy (k+1),KY i]);cases H:may i with|false=>rw[H]at O;rw[Uf,CF];simp only[sa0,csAll,A,Dk,G,I,wB,O,sL,sC,Cs]|true=>rw[H]at O;show Mg C F;rw[Vj,sa0,A,Dk,G,I,wB,O,Brq]
 ·rw[TR,h,A];rw[Uf,k];rw[UK,sa0,A]
end
def n_(t:Ak)(k:Nat):Cce CD=Bni:=by unfold Lk.near;cases h:Bni with|error e=>rfl|ok x=>rw[UR,z];let:=nX h;rw[TD];rw[Cdy]
def sd2(l:Linkage)(t:Ak)(k:Nat):Got (Bm×Bm):=GI [Bow,CD] x q [GI,Bow q,y,s,[Alu,(l.any λ(i:Item)=>DM==Aem)=Aa,Gy (k+1),App (x,y) s]]
def sd3(z:Bm×Bm):D:=PK HI Hf
def sfB(x y:Int)(d:D):Bh:=match d with|.obj 0 [.str [112,105,110],_,_,.tup [.int a,.int b]]=>AQ [a,b] [x,y]|_=>false
def alA(i:Item)(x y:Int):sfB x y (Gi)=(DM==Aem):=by
 obtain⟨n,l⟩:=i;cases l with
 |pin a b=>
  change AQ [a,b] [x,y]=AQ (Bsd a b) Aem;rw[Tv,a=x/\b=y];·rw[Bk,Ck];simp
  ·rw[Tx,G,¬([a,b]=[x,y]),e,h Bii];rw[Tx,z,¬((Bsd a b)=Aem),e,h (by rw[Xb];rw[Th,W,N])];rw[B_ G,Bvz]
 |crank a b=>rfl
 |dyad a b c d=>rfl
 |rider a b c d=>rfl
def alB(l:Linkage)(x y:Int):Bp [Ana,Ht,z,z] (Byt [Ql,sfB x y Ax])=Bp [Bdd,i,(DM==Aem)] D.bl:=by rw[sO,sO,sO];show Avx i _;change Ql (sfB x y (Gi))=Ql (DM==Aem);rw[alA]
def abP(t:Ak)(k:Nat):Bow CD=[CH,Cp=Asx,Aqu (Hl (k+1)),Axr]:=Hy fM n_
section
variable{st:sd}{s:Nat}{t:List Nat}(hs:s<st.length){d:D}{l:Linkage}(hL:∀k,vg (uv st s t k) d l)
include hs hL
def alC(m n:Nat)(k:Nat)(x y:Int)(I:LI):Io (LX) [Lz,AL,5,Cbk [Oq,Btg,Alo] Bth Ayr] [Ka,Ea,I,Dv x,Dv y,Ad] FK=Azg [Dq,Bp [Bdd,i,(DM==Aem)] D.bl]:=by let L:=aA (cl:=LX) (it:=Aeg) (i:=5) (j:=99) (b:=Cbk [Oq,Btg,Alo] Bth Ayr) (ρ:=[Ka,Ea,I,Dv x,Dv y,Ad]) (st:=EN k) (s:=Axs) (items:=Axe Ht z z) (λp=>Ed (sfB x y Ax)) [Brk,(hL k).it] (dA (hL k).sq) (by rw[U'];rw[Ui,z,B,Y];rw[Ui,i,V,B];show Anf;rw[VT,N];rw[TW,A,∀a b:Bm,zV FK .eq (CN Agq Alf) (PK x y)=Azg [Ed,AQ [a,b] [x,y]],a,b,Ab];cases H with|pin a b=>simp only[csAll,sw,aI,bp,A,c9];rfl|crank a b=>rw[WF,sw,aI,bp,da];rfl|dyad a b c e=>rw[WF,sw,aI,bp,dc];rfl|rider a b c e=>rw[WF,sw,aI,bp,d9];rfl);rw[alB]at L;show L
def alD(m n:Nat)(K:BI<m)(Z:Je):SK sd3 (KD (n+6) 81 [Ih,d]) (sd2 l t k):=by
 let H:=fN (t:=t) hs m (n+3) Z;unfold sd2;rw[abP,aiF,Ap];rw[Tv,Cp=Asx]
 ·rw[TX,h,H];let o:Aay (k+1):=Abh;let b:=Ckg m n Ac o;cases J:Aqu (Hl (k+1))with
  |error e=>rw[J]at b;rw[Xd,B];show Ha;rw[Uh,zZ,H,Dk,B,Cs]
  |ok x=>
   rw[UR,x];rw[J]at b;rw[Xf,z,F];rw[UO,C,CF,j];subst z;let a:=fN (t:=t) hs m (n+3) F;change SK sd3 _ (Ccq [Bow,(Hl j)]);rw[abP];rw[Td,g,t[j]?=Asx]
   ·rw[TX,g,a];let N:Aay (j+1):=(Dj g).1;let f:=Ckg m n Ac N;cases u:Aqu (Hl (j+1))with
    |error e=>rw[u]at f;rw[WG,X,B];show Ha;rw[Uy,zZ,H,Dk,G,a,B,Cs]
    |ok y=>
     obtain⟨y,R⟩:=y;rw[u]at f;rw[WI,u1,u2,r];let A:=alC hs hL m (n+5) Asu x y (RI (k+1));let c:SW [Bdd,i,(DM==Bsd x y)] id=Cmc (DM==Aem):=DY sdg
     change SK sd3 _ ([Alu,(l.any λ(i:Item)=>DM==Aem)=Aa,Gy (k+1),App (x,y) R]);rw[<-c];cases T:SW [Bdd,i,(DM==Bsd x y)] id with|true=>rw[JO];rw[Uf,Asu];simp only[zZ,↓A,csAll,H,Dk,G,a,u1,aay,T,sL,sC,Cs];try rfl|false=>rw[Bmy];show Mg u2 r;simp only[zZ,↓A,csAll,H,Dk,G,a,u1,aay,T,Bkz];try rfl
   ·rw[TR,g,a];rw[Uf,j];rw[UN,zZ,H,Dk,G,a,Cs];try rfl
 ·rw[TR,h,H];rw[Uf,k];rw[VQ,zZ,H,Cs];try rfl
end
def cT:Io r (.lam f []) A o=Cnb f []:=rfl
def n0(h:yp d=Aa){A:sM}:Io r (.lam f [1]) (j::Ea::A) o=Cnb f [d]:=Chy (([Iz,(yp d&&Aa)=Aa,sA.ok ..,AJ])=_)
def n8{A:sM}:Io r (.lam f [3]) (j::X::v::Dv d::A) o=Cnb f [AZ d]:=rfl
def jJ(h:yp e=Aa){A:sM}:Io r (.lam f [1,3]) (j::Ae e::v::Dv d::A) o=Cnb f [e,AZ d]:=Chy (([Iz,(yp e&&(Aa&&Aa))=Aa,sA.ok ..,AJ])=_)
def ek(h:vg o d l):yp d=Aa:=by cases d<;>first|rfl|rw[T',Bk,(by simp[tP,uS])]
def fO(h:known l r=KY p):p<Ah:=by rw[Tu,known];cases f:Awk r with|error e=>grind|ok x=>rw[Uq,n,M];rw[Tg,f];rw[Vb,h];cases R:Sh n with|none=>grind|some k=>rw[Tg,R];rw[WD];rw[XY];subst G;show(sh3.mp R).1
def abQ(h:Bjl CD=KY p):p<Ah:=by
 rw[Tg,fM];rw[Tn];·show fO h
 ·grind
def alE(F G:Aw->Rest->Got d)(h:∀p q,p<Ah->F p q=[CH,may p=Af,Gy (k+1),G p q]):(Bjl CD).next F=(xQ l may t k).next G:=by
 unfold xQ;cases Z:Bqz with
 |error e=>rfl
 |ok x=>
  rw[UR,p];change F p q=Got.next [Cv,may p=Af,Gy _,EG _] G;rw[h p q (abQ Z)];rw[Td,K,may p=Af];·rw[Av K,Av K];rfl
  ·rw[AF K,AF K];rfl
def alF(h:xQ l m t k=KY p):p<Ah/\m p=Aa:=by
 rw[Tu,xQ];cases Z:Bqz with
 |error e=>rw[Tg,Z];rw[Tf]
 |ok x=>
  rw[Tg,Z];rw[TM,[Cv,m _=Af,Except.error _,Chn]=(Chn)];rw[Tn];·grind
  ·rw[WD];rw[XY];subst G;rw[Th,abQ Z,Aq]
def alG(k:Nat):Bae k 0<=Dh:=by
 let C:∀(I:Linkage)(r:Ak)(b:Nat),(Eu (Cbi k<=b))->Eu (Aac (ranksFrom I r) k 0<=b+Qe I):=by
  intro I;induction I with
  |nil=>intro r b h k;show EI (h k) (Nat.le_add_right _ _)
  |cons i I d=>
   intro r b h k;let s:∀(v c:Nat),b<=c->v<=c->Eu (Aac (r++[v]) k 0<=c):=by grind[Nat.lt_trichotomy,gM,Nat.le_trans]
   let M:Qe (i::I)=Cv Bpz 1 0+Qe I:=by grind[dyads,List.filter_cons]
   unfold ranksFrom;rw[M];cases U:i.line with
   |pin x y=>simp_all[sdQ,sjQ,isDyad]
   |crank x y=>
    let:=d _ b (s 0 b Do (Bls)) k;rw[VE,e,Bpz,Af,isDyad,U]
    rw[e];rw[VO]
   |rider p q u v=>
    let:=d _ b (s (Ik (Cbi p) (Cbi q)) b Do (by let:=h p;let:=h q;omega)) k;rw[VE,e,Bpz,Af,isDyad,U]
    rw[e];rw[VO]
   |dyad p c q A=>
    let:=d _ (b+1) (s (1+Ik (Cbi p) (Cbi q)) (b+1) Ac (by let:=h p;let:=h q;omega)) k;rw[VE,e,Bpz,Aa,isDyad,U]
    rw[e];change _<=b+(1+Qe I);dsimp only at this|-;omega
 let:=C l [] 0 (HN AY) k;unfold ranks;omega
section
variable{st:sd}{s:Nat}{t:List Nat}(hs:s<st.length){d:D}{l:Linkage}(hL:∀k,vg (uv st s t k) d l)
include hs
def alH:Ato [Amv,Gi,Ri]=Dr Gi Ri:=jH hs de
include hL
def alI(m n:Nat)(K:BI<m)(Z:Je)(h:Nat):Bkc (KD (n+7) 82 [Ih,d]) (Aln h 0 CD):=by
 let f:=jI hs hL m (n+1) Ac Z;rw[behind,aiG,Ap];cases J:Bqz with
 |error e=>rw[J]at f;rw[WG,X,B];show Ha;rw[VQ,sdw,B,Cs]
 |ok x=>
  rw[UR,N];rw[J]at f;rw[WI,G,H,F];let Q:=alD hs hL m n K F;let e:(Bow q).next (λx A=>GI [Bow,A] y s [Alu,(Cmc (DM==Aem))=Aa,Gy (CF+1),App (QI N x y) s])=Iq (sd2 l t CF) z s (QI N HI Hf:IH) s:=by
   rw[sd2,<-H];cases Sr _ q with
   |error e=>rfl
   |ok x=>
    rw[Uq,x,A];change Ccq Bqz=Ayx Bqz;cases Bqz with
    |error e=>rfl
    |ok y=>
     obtain⟨y,R⟩:=y;change Aip=Bxj Aip;rw[Td,M,(Cmc (DM==Aem))=Aa];·rw[Av M,Av M];rfl
     ·rw[AF M,AF M];rfl
  change Gt _ s t sw _ (Ccq [Sr,_,q]);rw[e];cases Y:sd2 l t _ with|error e=>rw[Y]at Q;rw[Yp,B];show Ha;rw[UA,sdw,G,B,Cs]|ok x=>rw[Uq,z,R];rw[Y]at Q;rw[WX,u1,u2,r];show Mg u2 r;rw[Ti,C,Awn [Bfm,t8 _,BH _,sd3 z]=sw [Aj,N,.pin ..]];rw[Ti,U,GL Aoj=Aa];rw[Ti,p,GL (sd3 z)=Aa];rw[Uy,sdw,G,u1,U,p,C,Cck]
def alJ(m n:Nat)(K:BI<m)(u:NK)(o:xh l)(Z:Je)(h:Nat):Bkc (KD (n+7) 83 [Ih,d]) (Aln h 1 CD):=by let f:=jI hs hL m (n+1) Ac Z;rw[Ws];rw[aiH,Ap];cases J:Sr (Aqe) CD with|error e=>rw[J]at f;rw[WG,X,B];show Ha;rw[VQ,sb9,B,Cs]|ok x=>rw[UR,A];rw[J]at f;rw[WI,G,z,F];let Q:=g0 hs hL m (n+1) Ac F (f:=GH) (vs:=[d]) (may:=λp=>Ayq p) (by intro X p Y;let:=alm (hL X) m (n+2) u Y;rw[ajb,Ap];rw[UK,shx,this]);rw[VZ,_,(GI Bdl p M [Cik,fixed l p=Af,(CF+1),Iq [Oe,M] e s (Afp A e:IH) s])];rw[z,Cbj (λp=>Ayq p) (Aba M [Iq,Oe M,e,s,(Afp A e:IH),s]) (by intro p M Y;rw[jE u o Y];rfl)];cases Y:xQ l (λp=>Ayq p) t CF with|error e=>rw[Y]at Q;rw[Yp,B];show Ha;rw[Uh,sb9,G,n0 (ek (hL 0)),B,Cs]|ok x=>rw[Uq,p,R];rw[Y]at Q;rw[WX,u1,u2,r];let N:=nZ (t:=t) hs m n K r;rw[<-u2]at N;rw[VZ,_,(Iq [Oe,R] e s (Afp A e:IH) s)];cases w:Oe R with|error e=>rw[w]at N;obtain⟨X,B⟩:=N;show Ha;rw[UN,sb9,G,n0 (ek (hL 0)),u1,B,Cs]|ok x=>rw[Uq,v,I];rw[w]at N;obtain⟨V,O,H⟩:=N;show Mg O H;rw[Ti,C,Awn [Mu,t8 A,BH [HB],BH [Abn]]=sw [Afp,A,v]];rw[Ti,U,Bud A=Aa];rw[Vj,sb9,G,n0 (ek (hL 0)),u1,V,U,C,Cck]
end
def abR(a b:Nat):(! FU a Cj)=!(a==b):=Aq
section
variable{st:sd}{s:Nat}{t:List Nat}(hs:s<st.length){d:D}{l:Linkage}(hL:∀k,vg (uv st s t k) d l)
include hs hL
def alK(m n:Nat)(K:BI<m)(d2:Dh<=2)(Z:Je)(h:Nat):Bkc (KD (n+7) 84 [Ih,d]) (Aln h 2 CD):=by
 let f:=jI hs hL m (n+1) Ac Z;rw[Ws];rw[aiI,Ap];cases J:Sr (Aqe) CD with
 |error e=>rw[J]at f;rw[WG,X,B];show Ha;rw[VQ,z_,B,Cs]
 |ok x=>
  rw[UR,o];rw[J]at f;rw[WI,G,z,F];let Q:=g0 hs hL m (n+1) Ac F (f:=116) (vs:=[]) (may:=CJ) (by intro X p u;rw[ajc,Ap];rw[XT,shy]);rw[VZ,_,(GI Bdl p q [GI,Oe q,a,q,GI Bdl k s [CH,k=p,Gy (CF+1),Biv (RANK<1+Ik (Bae p 0) (Bae k 0)) h [Iq,Oe s,b,s,(Qw o k:IH),s]]])];rw[z,Cbj CJ (Aba q [GI,Oe q,a,q,GI Bdl k s [CH,k=p,Gy (CF+1),Biv (RANK<1+Ik (Bae p 0) (Bae k 0)) h [Iq,Oe s,b,s,(Qw o k:IH),s]]]) Ag];cases u:xQ l (CJ) t CF with
  |error e=>rw[u]at Q;rw[Yp,B];show Ha;rw[Uh,z_,G,cT,B,Cs]
  |ok x=>
   rw[Uq,p,R];rw[u]at Q;rw[WX,u1,u2,r];let N:=nZ (t:=t) hs m n K r;rw[<-u2]at N;rw[VZ,_,([GI,Oe R,a,q,GI Bdl k s [CH,k=p,Gy (CF+1),Biv (RANK<1+Ik (Bae p 0) (Bae k 0)) h [Iq,Oe s,b,s,(Qw o k:IH),s]]])];cases w:Oe R with
   |error e=>rw[w]at N;obtain⟨X,B⟩:=N;show Ha;rw[UN,z_,G,cT,u1,B,Cs]
   |ok x=>
    rw[Uq,a,v];rw[w]at N;obtain⟨V,O,H⟩:=N;let g:=g0 hs hL m (n+1) Ac H (f:=117) (vs:=[HB]) (may:=HN (!(k==p))) (by intro X L I;rw[ajd,Ap];rw[UK,shz,abR]);rw[VZ,_,(GI [Bjl,v] k s [CH,k=p,Gy (v.at_+1),Biv (RANK<1+Ik (Bae p 0) (Bae k 0)) h [Iq,Oe s,b,s,(Qw o k:IH),s]])];rw[O,Cbj [HN,!(k==p)] (λk s=>Iq [Oe,s] b s (Qw o k:IH) s) (by
     intro X M I;let r1:=Bqs p;let P:=Bqs X;rw[Td,Y,X=p];·rw[Av Y,Av (CO Y)];rfl
     ·rw[AF Y,Chi RANK,Bui Y])];cases W:xQ l (HN (!(k==p))) t v.at_ with|error e=>rw[W]at g;rw[WW,X,B];show Ha;rw[Vj,z_,G,cT,u1,V,n8,B,Cs]|ok x=>rw[Uq,L,i];rw[W]at g;obtain⟨j,y2,T⟩:=g;let A:=nZ (t:=t) hs m n K T;rw[<-y2]at A;rw[VZ,_,(Iq [Oe,i] b s (Qw o L:IH) s)];cases c:Oe i with|error e=>rw[c]at A;obtain⟨X,B⟩:=A;show Ha;simp only[z_,csAll,G,cT,u1,V,n8,j,B,Cs]|ok x=>rw[Uq,b,q5];rw[c]at A;obtain⟨z1,z2,y⟩:=A;show Mg z2 y;rw[Ti,C,Awn [IK,t8 o,CN HB [AT,L],QV a En]=sw [Qw,o,L]];rw[Ti,U,Bud o=Aa];simp only[z_,csAll,G,cT,u1,V,n8,j,z1,U,C,Cck]
def alL(m n:Nat)(K:BI<m)(u:NK)(o:xh l)(Z:Je)(h:Nat):Bkc (KD (n+8) 85 [Ih,d]) (Aln h 3 CD):=by
 let f:=jI hs hL m (n+2) Ac Z;rw[Ws];rw[aiJ,Ap];cases J:Sr (Aqe) CD with
 |error e=>rw[J]at f;rw[WG,X,B];show Ha;rw[VQ,z6,B,Cs]
 |ok x=>
  rw[UR,nm];rw[J]at f;rw[WI,G,z,F];let Q:=g0 hs hL m (n+2) Ac F (f:=118) (vs:=[]) (may:=CJ) (by intro X p hp;rw[aje,Ap];rw[XT,shA]);rw[VZ,_,(GI Bdl p q [GI,Bdl,k,s,Cik (k=p\/Bqn p k=Af) (CF+1) [GI,Ayi,u,s,Iq Ayi v s (JF nm p k u v:IH) s]])];rw[z,Cbj CJ (Aba q [GI,Bdl,k,s,Cik (k=p\/Bqn p k=Af) (CF+1) [GI,Ayi,u,s,Iq Ayi v s (JF nm p k u v:IH) s]]) Ag];cases hp:xQ l (CJ) t CF with
  |error e=>rw[hp]at Q;rw[Yp,B];show Ha;rw[Uh,z6,G,cT,B,Cs]
  |ok x=>
   rw[Uq,p,R];let pl:=(alF hp).1;rw[hp]at Q;rw[WX,u1,u2,r];let g:=g0 hs hL m (n+2) Ac r (f:=119) (vs:=[d,HB]) (may:=HN (!(k==p)&&Pi l k)) (by intro X L I;let sh:=aln (hL X) m (n+3) pl I;rw[ajf,Ap];rw[UK,shB,abR];cases(!(L==p))<;>rw[Vt,sh,vG]);rw[VZ,_,(GI [Bjl,R] k s [Cik,k=p\/Bqn p k=Af,(Asu+1),GI Ayi u s [Iq,Ayi,v,s,(JF nm p k u v:IH),s]])];rw[u2,Cbj [HN,!(k==p)&&Pi l k] (λk s=>GI Ayi u s [Iq,Ayi,v,s,(JF nm p k u v:IH),s]) (by
    intro X M I;rw[Td,Y,X=p];·rw[Av (AK Y),Av (CO Y)];rfl
    ·rw[nQ u o pl I (E_ (Y Aww))];cases P:Pi l X with|false=>rw[Av Aot,Av AN];rfl|true=>rw[Bui Y,Bui Y])];cases W:xQ l (HN (!(k==p)&&Pi l k)) t Asu with|error e=>rw[W]at g;rw[WW,X,B];show Ha;rw[Uy,z6,G,cT,u1,jJ (ek (hL 0)),B,Cs]|ok x=>rw[Uq,L,q3];rw[W]at g;obtain⟨V,O,H⟩:=g;let N:=abO (t:=t) hs m n K H;rw[<-O]at N;rw[VZ,_,([GI,Bok q3,u,s,Iq Ayi v s (JF nm p L u v:IH) s])];cases w:Bok q3 with|error e=>rw[w]at N;obtain⟨X,B⟩:=N;show Ha;rw[Vj,z6,G,cT,u1,jJ (ek (hL 0)),V,B,Cs]|ok x=>rw[Uq,a,i];rw[w]at N;obtain⟨j,y2,T⟩:=N;let A:=abO (t:=t) hs m n K T;rw[<-y2]at A;rw[VZ,_,(Iq [Bok,i] v s (JF nm p L a v:IH) s)];cases c:Bok i with|error e=>rw[c]at A;obtain⟨X,B⟩:=A;show Ha;simp only[z6,csAll,G,cT,u1,jJ (ek (hL 0)),V,j,B,Cs]|ok x=>rw[Uq,b,q5];rw[c]at A;obtain⟨z1,z2,y⟩:=A;show Mg z2 y;rw[Ti,C,Awn [PZ,t8 nm,CN HB [AT,L],[CN,wg a,wg b]]=sw [JF,nm,p,L,a,b]];rw[Ti,U,Bud nm=Aa];rw[Tx,pa,Bnv q (GL (wg q)=Aa),q,Ab];simp only[z6,csAll,G,cT,u1,jJ (ek (hL 0)),V,j,z1,U,pa,C,Cck]
end
def abS(c:Nat)(w:Ak)(t:Ak)(k:Nat):Coi (c::w)=[CH,Cp=AW,Bve (Hl (k+1)),Axr]:=by change([Alu,(CD).head=AW,Bve ((CD).on 1),Axr])=_;rw[bb,aV]
def zn(t:Ak)(k:Nat):Got (Ak):=match Kp Cp Awo with|none=>Axr|some (_,w)=>Iq Ayw _ q w q
section
variable{st:sd}{s:Nat}{t:List Nat}(hs:s<st.length)
include hs
def alM(m n:Nat)(Z:Je)(w:Ak)(Y:∀c∈w,c<256)(C v:LI):[Dbn,w,∃P,Mo (Bb (n+3)) (Aud 2 (Aeg)) [Ka,Lm w,v] FK=DJ [Ka,Lm w,P] (EN CF)/\q=Hl CF/\Aay CF,∃X,Mo (Bb (n+3)) (Aud 2 (Aeg)) [Ka,Lm w,v] FK=CM [-6,1,LG] (Ri)]:=by
 show abz (λj A V=>Aay (k+j)/\V=uv _ s t (k+j)/\(∃x,A=[CU,CU,x])/\Ayw=word (w.drop j) (Hl (k+j))) (λr=>match Bve _ with|.ok (_,q)=>∃P,r=DJ [CU,CU,P] (uv _ s t CF)/\q=Hl CF/\Aay CF|.error e=>∃X,r=CM [-6,1,e] (uv _ s t X)) Em ff.size (by rintro j A V⟨_,rfl,_,_⟩;rfl) ?_ ?_ [AO,AE,Ab,SE,Ab]
 ·rintro j x y A V O⟨G,rfl,⟨z,rfl⟩,H⟩;rw[tD]at O;cases L:w[j]? with
  |none=>grind
  |some c=>
   rw[L]at O;rw[WA,scr (GF O)];let B:=sh1 hs m (n+1) G (Y c (tV L));let d:w.drop j=c::w.drop (j+1):=by rw[YS]
   rw[d,abS]at H;rw[Td,I,t[k+j]?=AW]
   ·rw[Av I]at B H;rw[TB,⟨[CU,CU,Lm OG],uv _ s t (k+j+1),?_,?_,Ab,SE,H⟩];·rw[UM,B]
    ·grind
   ·rw[AF I]at B H;rw[VX,Cjr [-6,1,(Cn (k+j))] [EN,(k+j)]];·rw[UM,B]
    ·rw[H];rw[TY,k+j]
 ·rintro A V⟨G,rfl,⟨z,rfl⟩,H⟩;rw[sr]at*;rw[sh4]at H;rw[H];rw[Ts,z,Ab,Ab,G]
def alN(m n:Nat)(Z:Je):Ccp (KD (n+4) 76 [Ih]) (zn t k):=by
 let g:=Bze m (n+2) Z;let F:Csl (Clq=AW->tG FK (Qz w[Ga Ia]? c Chz)=Azg Ahu):=by intro w c L;cases w with|nil=>cases L|cons a r=>injection L with L;subst L;rfl
 let l0:Csl (Clq=AW->(∀c∈w,c<256)->Cp=AW->∀v:LI,[Dbn,w,Bes (Bb (n+3)) [Bdy,(Bgn),Aud 2 (Aeg),Awa] [Ka,Lm w,v] FK=Amv Ajg [EN,CF]/\q=Hl CF/\Aay CF,∃X,Bes (Bb (n+3)) [Bdy,(Bgn),Aud 2 (Aeg),Awa] [Ka,Lm w,v] FK=CM [-6,1,LG] (Ri)]):=by
  intro w c o u I v;let B:=alM (t:=t) hs m n Z w u v v;let C:y_ FK (Ajg) GO=Azg Ahu:=F w c o;let N:tQ t k=c:=by unfold tQ;rw[I];rfl
  rw[N]at g;let M:AQ Gg Gg=Aa:=Bx Ab;cases Y:Ayw with|error e=>rw[Y]at B;obtain⟨X,B⟩:=B;show Ha;rw[WF,g,C,M,B]|ok x=>rw[UR,_];rw[Y]at B;obtain⟨P,B,l2,l3⟩:=B;show Mg l2 l3;rw[WF,g,C,M,B]
 let Q:Csl (Clq=AW->c<256->Cp≠AW->∀v:LI,Bes (Bb (n+3)) [Bdy,(Bgn),Aud 2 (Aeg),Awa] [Ka,Lm w,v] FK=DJ [Ka,Lm w,v] FK):=by intro w c o L I v;let C:y_ FK (Ajg) GO=Azg Ahu:=F w c o;let M:=nW (t:=t) (k:=k) (c:=c) L;rw[B_ I]at M;rw[Wm,g,C,M]
 let hq:=abz (cl:=Bb (n+3)) (m:=m) (i:=1) (it:=Et [Aft,BH [(Rh),(Mu),(IK),(PZ)]]) (b:=FA [Bdy,(Bgn),Aud 2 (Aeg),Awa]) (s:=Et [BH,[(Rh),(Mu),(IK),(PZ)]]) (items:=[DA Rh,DA Mu,DA IK,DA PZ]) (ρ:=[Ka,Ad,Ad]) (st:=EN k) (λj A V=>V=EN k/\(∃x1 v,A=[Ka,x1,v])/\(0<j->Cp≠Ae 112)/\(1<j->Cp≠Ae 99)/\(2<j->Cp≠Ae Cc)/\(3<j->Cp≠Ae NY)) (λr=>Ccp (Ato (r.bind [Jl,st,scl (Bb (n+3)) m [FA,Bie 6 Axh] i st])) (zn t k)) Em Em (by rintro j A V⟨rfl,_⟩;show(dA (d:=BH [(Rh),(Mu),(IK),(PZ)]) Ab).turn j) (by
  rintro j x y A V O⟨rfl,⟨x1,v,rfl⟩,W,J,K,H⟩;let R:∀(w:Ak)(c:Nat)(b:Nat),Clq=AW->(∀c∈w,c<256)->Cp=AW->Cei c=Ep b w->x=Ajg->(∃U V,Bes (Bb (n+3)) [Bdy,(Bgn),Aud 2 (Aeg),Awa] [Ka,Bi,v] FK=R_/\Agm)\/(∃d V,Bes (Bb (n+3)) [Bdy,(Bgn),Aud 2 (Aeg),Awa] [Ka,Bi,v] FK=Akd/\Ccp (Ato [Jg,SG (yq.ret d) V,i,scl (Bb (n+3)) m [FA,Bie 6 Axh] i st]) (zn t k))\/(∃e V,Bes (Bb (n+3)) [Bdy,(Bgn),Aud 2 (Aeg),Awa] [Ka,Bi,v] FK=CM e V/\Ccp (Ato [Afr,(sA.err e V:Mr),i,st,scl (Bb (n+3)) m [FA,Bie 6 Axh] i st]) (zn t k)):=by
   rintro w c b o u I p rfl;let h:=l0 w c o u I v;let l:zn t k=Iq Ayw _ q w q:=by unfold zn;rw[I];change(Czw c _ _)=_;rw[p]
   rw[l];cases Y:Ayw with|error e=>rw[Tg,Y];rw[UJ,X,h];rw[VX,DL _ _ h X [Cb,ajA,Cs]]|ok z=>obtain⟨_,q⟩:=z;rw[Tg,Y];rw[Ut,h,l2,l3];rw[Uv,AK [Ds,_,_,h,Cac bJ ajF (jH hs Ab),l2,l3]]
  let T:j<4:=(Dj O).1;obtain rfl|rfl|rfl|rfl:j=0\/j=1\/j=2\/j=3:=AE
  ·let O:x=Rh:=by rw[Ya];rw[XW];show G.symm
   rw[Td,I,Cp=Ae 112]
   ·rw[Ye,R HX 112 0 Ab Dc I Ab O,_,_,f];·show f.elim
    ·rw[Uv,OJ]
    ·rw[VX,h]
   ·rw[TB,⟨_,_,Cb O (Q HX 112 Ab Ac I v),Ab,Bny,Ej I,Atg,Atg,Atg⟩]
  ·let O:x=Mu:=by rw[Ya];rw[XW];show G.symm
   rw[Td,I,Cp=Ae 99]
   ·rw[Ye,R FN 99 1 Ab Dc I Ab O,_,_,f];·show f.elim
    ·rw[Uv,OJ]
    ·rw[VX,h]
   ·rw[TB,⟨_,_,Cb O (Q FN 99 Ab Ac I v),Ab,Bny,Ej (W Ac),Ej I,Atg,Atg⟩]
  ·let O:x=IK:=by rw[Ya];rw[XW];show G.symm
   rw[Td,I,Cp=Ae Cc]
   ·rw[Ye,R GB Cc 2 Ab Dc I Ab O,_,_,f];·show f.elim
    ·rw[Uv,OJ]
    ·rw[VX,h]
   ·rw[TB,⟨_,_,Cb O (Q GB Cc Ab Ac I v),Ab,Bny,Ej (W Ac),Ej (J Ac),Ej I,Atg⟩]
  ·let O:x=PZ:=by rw[Ya];rw[XW];show G.symm
   rw[Td,I,Cp=Ae NY]
   ·rw[Ye,R IL NY 3 Ab Dc I Ab O,_,_,f];·show f.elim
    ·rw[Uv,OJ]
    ·rw[VX,h]
   ·rw[TB,⟨_,_,Cb O (Q IL NY Ab Ac I v),Ab,Bny,Ej (W Ac),Ej (J Ac),Ej (K Ac),Ej I⟩]) (by
  rintro A V⟨rfl,⟨x1,v,rfl⟩,W,J,K,H⟩;let W:=W Dc;let J:=J Dc;let K:=K Dc;let H:=H Dc;let l:zn t k=Axr:=by
   unfold zn;cases I:Cp with
   |none=>rfl
   |some c=>
    rw[I]at W J K H;change(Czw c _ _)=_;let:Cei c=Ad:=Cna kindOf [Azn,W (by rw[e])] [Azn,J (by rw[e])] [Azn,K (by rw[e])] [Azn,H (by rw[e])]
    rw[this]
  rw[l];rw[Uf,k];rw[WF,Dk,sL,sC,Cs]) [Ds,Ab,Bny,Atg,Atg,Atg,Atg];rw[aiA,Ap];show hq
end
def alO(h:vg o d l)(m n:Nat)(c1:Dx<=1)(A:Dh<=3){w:Ak}(Z:Cei c=Ep b w):Fa 2 86 d Ajg=JM (! Gp (Bfj<=Ah\/(b=1/\0<Dx)\/(b=2/\Bnp))):=by
 let X:=nI h m n;let H:=h.len;let O:Bl Axq 24=! Bn Bfj Ah:=by grind[LINES,decide_eq_true,decide_eq_false]
 rw[aiK,Ap];rw[TC,kindOf,Z];rw[Tz,Z];·rw[Yb];rw[XZ];subst W;let N:w=HX:=N.symm;subst N;rw[Uh,z7,gO,gQ,H,O];grind
 ·rw[Tz,Z]
  ·rw[Yb];rw[XZ];let N:w=FN:=N.symm;subst N;let a:=X FN;rw[abx]at a;rw[Td,L,Dx=1];·let M:FU Dx 1=Aa:=Db;rw[Uy,z7,fF,fG,a,M,H,O];congr 2;symm;rw[Bool.not_eq_false'];show Db
   ·rw[UW,M,FU Dx 1=Af];rw[Uy,z7,fF,fG,a,M,H,O];congr 2;congr 1;show Cta;omega
  ·rw[Tz,Z]
   ·rw[Yb];rw[XZ];let N:w=GB:=N.symm;subst N;let a:=X GB;rw[nG]at a;rw[Td,L,Dh=3];·let M:FU Dh 3=Aa:=Db;rw[Uy,z7,fH,fJ,a,M,H,O];congr 2;symm;rw[Bool.not_eq_false'];show Bx [Bxl,DYADS]
    ·rw[UW,M,FU Dh 3=Af];rw[Uy,z7,fH,fJ,a,M,H,O];congr 2;congr 1;show Cta;unfold DYADS;omega
   ·rw[Tz,Z];·rw[Yb];rw[XZ];subst W;let N:w=IL:=N.symm;subst N;rw[Uh,z7,gR,gS,H,O];congr 2;congr 1;show Cta;omega
    ·cases Z
section
variable{st:sd}{s:Nat}{t:List Nat}(hs:s<st.length){d:D}{l:Linkage}(hL:∀k,vg (uv st s t k) d l)
include hs hL
def alP(m n:Nat)(K:BI<m)(u:NK)(o:xh l)(c1:Dx<=1)(A:Dh<=3)(Z:Je):Bkc (KD (n+9) 87 [Ih,d]) (Ave CD):=by
 let a:=alN (t:=t) hs m (n+4) Z;rw[XB];rw[bb,aiL,Ap];rw[TC,zn,a];cases T:Kp Cp Awo with
 |none=>rw[T]at a;obtain⟨X,B⟩:=a;show Ha;rw[UA,z8,Dk,B,Cs];rfl
 |some x=>
  rw[Uq,b,w];rw[T]at a;rw[Te,c,_,p,sjR.mp T];let a:Ccp (KD (n+4+4) 76 [Ih]) (Iq Ayw _ q w q):=a;rw[VZ,_,(GI Ayw _ q [Biv,Bfj<=Ah\/(b=1/\0<Dx)\/(b=2/\Bnp),k,GI [Aln,k,b,q] i q [Iq,Bde q,_,q,i,q]])];cases Y:Ayw with
  |error e=>rw[Y]at a;obtain⟨X,B⟩:=a;show Ha;rw[UA,z8,Dk,B,Cs]
  |ok x=>
   rw[UR,_];rw[Y]at a;obtain⟨G,z,F⟩:=a;let f:=alO (hL CF) m (n+6) c1 A p;rw[VZ,_,(Biv (Bfj<=Ah\/(b=1/\0<Dx)\/(b=2/\Bnp)) k [GI,Aln k b q,i,q,Iq [Bde,q] _ q i q])];rw[Td,L,Bfj<=Ah\/(b=1/\0<Dx)\/(b=2/\Bnp)];·rw[Av L];rw[Bx L]at f;rw[Uf,CF];rw[Uy,z8,Dk,G,f,sL,sC,Cs]
   ·rw[AF L];rw[B_ L]at f;obtain⟨I,j,g⟩:∃I,xD 0 (Ajg)=Ahl I/\Bkc (NU (n+8) I [Ih,d] (EN CF)) (Aln k b q):=by
     rw[z];rw[TC,kindOf,p];rw[Tz,p];·rw[Yc];rw[X_];subst W;subst N;rw[Vu,82,alI hs hL m (n+1) K F k]
     ·rw[Tz,p];·rw[Yc];rw[X_];subst W;subst N;rw[Vu,83,alJ hs hL m (n+1) K u o F k]
      ·rw[Tz,p];·rw[Yc];rw[X_];subst W;subst N;rw[Vu,84,alK hs hL m (n+1) K ?_ F k];rw[TC,DYADS,L];omega
       ·rw[Tz,p];·rw[Yc];rw[X_];subst W;subst N;rw[Vu,85,alL hs hL m n K u o F k]
        ·cases p
    cases H:Aln k b q with
    |error e=>rw[H]at g;rw[WW,X,B];show Ha;rw[Uy,z8,Dk,G,f,j,B,Cs]
    |ok x=>
     rw[Uq,i,R];rw[H]at g;obtain⟨u1,u2,r⟩:=g;let C:=sh1 (t:=t) hs m (n+6) (k:=R.at_) (c:=10) r Ac;rw[Avb [Ay,10] 10]at C;let h:Bde R=[CH,t[Asu]?=Ae 10,PL () (Asu+1),Gy Asu]:=by
      unfold want;conv=>lhs;rw[u2]
      rw[bb,aV];rfl
     rw[VZ,_,(Iq [Bde,R] _ q i q)];rw[h];rw[Td,bC,t[Asu]?=Ae 10];·rw[TX,bC,C];show Mg Ab (Dj bC).1;rw[Vj,z8,Dk,G,f,j,u1,C,Cck];try rfl
     ·rw[TR,bC,C];rw[Uf,Asu];rw[Vj,z8,Dk,G,f,j,u1,C,Cs]
end
def s_{J:Bq}(g:Asm)(k:Nat):Al:=∀a q,g=KY a->k<=CF
theorem s_.next{f:J->Rest->Got d}(h:s_ g k)(R:∀a q,k<=CF->s_ (f a q) k):s_ (g.next f) k:=by intro b M e;cases g with|error x=>rw[Tr]|ok x=>rw[UR,a];show R a q (h a q Ab) b M e
theorem s_.err:s_ (KI:Asm) k:=Kh h SF
theorem s_.ok(h:k<=CF):s_ (KY a:Asm) k:=HK _ _ (by rw[Tr];show h)
theorem s_.le{J:Bq}{g:Asm}{k X:Nat}(h:s_ g X)(Z:k<=X):s_ g k:=HK a q [GN,Z,h a q e]
theorem s_.ite{J:Bq}{p:Al}[Bqq p]{a b:Asm}{k:Nat}(G:s_ a k)(z:s_ b k):s_ [Cv,p,a,b] k:=by split<;>assumption
def abT(r:Rest)(n:Nat):(r.on n).at_=Acs+n:=rfl
def n9(r:Rest):Ait (Bio r):=by unfold Lk.number;rw[TD];cases r.text.takeWhile Awb with|nil=>rw[VU]|cons c l=>show s_.ite (Csm (OI (Bvx))) (Acl (OI (Bvx)))
def oa(r:Rest):Ait (Aqu r):=by
 rw[Yr];show s_.ite (s_.ite s_.err ?_) ?_;·let:=n9 (Cdo);cases h:Bio (Cdo)with|error e=>rw[VU]|ok x=>rw[UR,v];show OI (EI Bvx (Axn v h))
 ·let:=n9 r;cases h:Bio r with|error e=>rw[VU]|ok x=>rw[UR,v];show OI (Axn v h)
def abU(r:Rest):Ait (Cce r):=by unfold Lk.near;let:=oa r;cases h:Aqu r with|error e=>rw[VU]|ok x=>rw[UR,v];show Acl (OI (Axn v h))
def og(r:Rest):Ait (length_ r):=by unfold length_;let:=oa r;cases h:Aqu r with|error e=>rw[VU]|ok x=>rw[UR,v];show Acl (OI (Axn v h))
def abV(r:Rest):Ait (Cao r):=by unfold fraction;let:=oa r;cases h:Aqu r with|error e=>rw[VU]|ok x=>rw[UR,v];let G:=Axn v h;show s_.ite (Acl (OI G)) ?_;let:=n9 (q.on 1);cases z:Bio (q.on 1)with|error e=>rw[VU]|ok x=>rw[Uq,d,s];let F:=this d s z;rw[abT]at F;show Acl (OI Ac)
def abW(r:Rest):Ait (Awk r):=by unfold Lk.name;cases r.head with|none=>rw[VU]|some c=>show Acl (Acl (Acl (OI (Bvx))))
def g3(l:Linkage)(r:Rest):Ait (known l r):=by unfold known;let:=abW r;cases h:Awk r with|error e=>rw[VU]|ok x=>rw[UR,v];rw[TD];cases Sh v with|none=>rw[VU]|some k=>show OI (Axn v h)
def alQ(l:Linkage)(r:Rest):Ait (newName l r):=by unfold newName;let:=abW r;cases h:Awk r with|error e=>rw[VU]|ok x=>rw[UR,v];show Acl (OI (Axn v h))
def abX(c:Nat)(r:Rest):s_ (want c r) (Acs+1):=Bzc want [Csm,(OI (Bvx))]
def bT{f:Rest->Asm}(R:∀r,Ait (f r))(r:Rest):Ait (Sr f r):=by unfold then_;let:=abX 32 r;cases h:want 32 r with|error e=>rw[VU]|ok x=>rw[UR,v];show(R q).le [Bpa,Axn v h]
def abY:∀(w:Ak)(r:Rest),Ait (Bve r)|[],r=>OI Do|c::w,r=>Bzc word [Csm,((abY w (Cdo)).le (Bvx))]
def alR(l:Linkage)(h b:Nat)(r:Rest):Ait (Aln h b r):=by
 rw[Ws];show Bbj (bT (alQ l) r) n q Z;split;·show Bbj ((bT abU q).le Z) x U G;show s_.next ((bT abU U).le G) λy R H=>Acl (OI H)
 ·show Bbj ((bT (g3 l) q).le Z) x U G;show Acl (s_.next ((bT og U).le G) λy R H=>OI H)
 ·show Bbj ((bT (g3 l) q).le Z) x U G;show Bbj ((bT og U).le G) y R H;show Bbj ((bT (g3 l) R).le H) z t F;show Acl (Acl (s_.next ((bT og t).le F) λy i A=>OI A))
 ·show Bbj ((bT (g3 l) q).le Z) x U G;show Bbj ((bT (g3 l) U).le G) y R H;show Acl (Bbj ((bT abV R).le H) z t F);show s_.next ((bT abV t).le F) λy i A=>OI A
def alS(h:Ave r=KY i):Acs<CF:=by
 let:s_ (Ave r) (Acs+1):=by
  rw[XB];cases Dez with
  |none=>rw[VU]
  |some x=>
   rw[Uq,b,w];intro a M e;let e:(GI [Bve,r] _ q [Biv,Bfj<=Ah\/(b=1/\0<Dx)\/(b=2/\Bnp),Acs,GI [Aln,Acs,b,q] i q [Iq,Bde q,_,q,i,q]])=App a M:=e;cases Y:Bve r with
   |error x=>rw[TV,Y];rw[Tr]
   |ok x=>
    rw[Uq,_,U];rw[TV,Y];let V:=abY w r _ _ Y;let e:(Biv (Bfj<=Ah\/(b=1/\0<Dx)\/(b=2/\Bnp)) Acs [GI,Aln Acs b U,i,q,Iq [Bde,q] _ q i q])=(App a M:SV):=e;rw[Tz,e];·rw[Tr]
    ·cases T:Aln Acs b U with|error x=>rw[TV,T];rw[Tr]|ok x=>rw[Uq,j,R];rw[TV,T];let P:=alR l Acs b U _ _ T;let e:(Iq [Bde,R] _ q j q)=(App a M:SV):=e;let:=s_.next (abX 10 R) (LU q Z (s_.ok (a:=j) Z)) a M e;omega
 show Axn i h
def xi(q:Rat):Al:=Bsr q/\q.den<=20
def sh5(l:Linkage):Cbp|.pin x y=>Aiw x/\Aiw y/\Bjv [Fu,j] Aem|.crank p r=>p<Ah/\Ayq p=Aa/\1<=r/\Dm r/\Dx=0|.dyad p a q b=>p<Ah/\q<Ah/\p≠q/\1<=a/\Dm a/\1<=b/\Dm b/\Dh<=2|.rider p q u v=>p<Ah/\q<Ah/\p≠q/\Pi l q=Aa/\xi u/\xi v
structure yB(l:Linkage)(i:Item):Al where
 a:65<=i.name.letter
 z:i.name.letter<=90
 n:i.name.number<=99
 new:Bjv Awz MU
 room:Ah<24
 ln:sh5 l DM
def VL(l:Linkage):Al:=Cku (CS=Ju->yB NE i)
theorem VL.snoc(h:Dy)(V:yB l i):VL Dt:=by
 intro k j C;rw[Td,Z,k<Ah];·rw[fK Z]at C;rw[sh6 Ac];show h k j C
 ·let:k<Bhi l:=(Dj C).1;rw[VW,su,s0];rw[Vr,k=Ah]
  rw[eg]at C;rw[Ul,GF C];rw[Bsy];show V
theorem VL.init(h:VL Dt):Dy/\yB l i:=by
 rw[Uf,Bz k j C];·let Z:=(Dj C).1;let:=h k j (by rw[fK Z];show C);rw[Tt,sh6 Ac];rw[TQ]
 ·let:=h Ah i eg;rw[Tt,Bsy];rw[TQ]
theorem VL.nil:VL []:=λk i h=>Azs
def abZ{l:Linkage}(h:CS=Ju):An Apr=k:=Aq
theorem VL.uses(h:Dy):NK:=by intro k i V u F;let d:=abZ V;let U:=(h k i V).ln;cases f:i.line with|pin x y=>grind[Line.uses]|crank p r=>rw[f]at F U;simp[Line.uses]at F;obtain⟨G,_⟩:=U;omega|dyad p a q b=>rw[f]at F U;simp[Line.uses]at F;rw[VD,G,z,_];omega|rider p q u v=>rw[f]at F U;simp[Line.uses]at F;rw[VD,G,z,_];omega
def ab_(h:p<k):uA NE p=Aav:=Csb
def alT(h:p<k):sZ NE p e=sZ l p e:=by grind[sZ]
def ab0(G:p<k)(z:q<k):Pi NE q=Pi l q:=by grind[wD,ab_,alT]
def VL.g4(h:Dy):xh l:=by intro k N p q u v V;rw[Tk,G,z,F,H,_,(h k _ V).ln];grind[ab0]
def alU(l:Linkage)(i:Item):Ix Dt=Dx+Cv Ctt 1 0:=Ddc
theorem VL.counts(l:Linkage):Dy->Dx<=1/\Dh<=3/\Bmh:=by
 show nO (P:=λl=>Dy->Dx<=1/\Dh<=3/\Bmh) ?_ ?_ l;·intro _;decide
 ·intro l i d h;obtain⟨G,z⟩:=h.init;let X:=z.room;let U:=z.ln;rw[alU,ef,su,s0];show Cgq;·unfold isCrank;cases f:i.line with|crank p r=>rw[Up,f];rw[Wj,_,_,_,_,L];grind|pin x y=>grind|dyad p a q b=>grind|rider p q u v=>grind
  ·unfold xg zl;cases f:i.line with|dyad p a q b=>rw[Up,f];rw[Wz,_,_,_,_,_,_,_,L];grind|pin x y=>grind|crank p r=>grind|rider p q u v=>grind
theorem VL.lines(h:Dy):sdT l:=by rw[Te,_,d,n,counts l h];rw[Tp,n,d,Bz k i V];let U:=(h k i V).ln;unfold shQ;cases f:i.line with|pin x y=>rw[Up,f];rw[Th,U.1,U.2.1]|crank p r=>rw[Up,f];rw[Wj,G,_,_,H,_];grind|dyad p a q b=>rw[Up,f];rw[Wz,G,z,_,_,L,_,T,_];grind|rider p q u v=>rw[Up,f];obtain⟨G,z,_,_,⟨L,I⟩,T,Z⟩:=U;grind
def jK{g:Asm}{b:d}(h:g.next f=KY b):∃a r,g=App a r/\f a r=KY b:=by cases g with|error e=>rw[Tf]|ok x=>rw[Uq,a,r];rw[Ts,a,r,Ab,h]
def bU{a:J}(h:Sr f r=KY a):∃F,f F=KY a:=by grind[then_]
def alV(l:Ak):∀c∈l.takeWhile Awb,Awj c=Aa:=by intro c L;rw[Wk,j,C,L];grind[nR]
def oh(h:length_ r=KY v):1<=v/\Dm v:=by grind[length_,FAR]
def ab1(h:Cce r=KY z):Bxb:=by grind[Lk.near,FAR]
def ab2(h:Cao r=KY u):xi u:=by
 rw[Tu,fraction];cases P:Aqu r with
 |error e=>grind
 |ok x=>
  rw[Uq,z,M];rw[Tg,P];rw[Vb,h];rw[Tn]
  ·rw[Tn];·grind
   ·rw[TF,L];rw[WD];injection h with G H;subst G;rw[TC,FAR,L];rw[Th,Csa,AY]
  ·cases f:Bio (M.on 1)with
   |error e=>grind
   |ok x=>
    rw[Uq,d,s];rw[Tg,f];rw[Vb,h];rw[Tn];·rw[Tf]
    ·rw[TF,L];rw[WD];injection h with G H;subst G;rw[TC,FAR,L];rw[Uc,J,N_ z d=1]
     rw[g_ Ac J];rw[Th,Ag,Ag]
def alW(h:Awk r=KY n):65<=Bce/\Bce<=90/\Brg<=99:=by
 rw[Tu,Lk.name];cases f:r.head with
 |none=>grind
 |some c=>
  rw[Tg,f];rw[Vb,h];rw[Tn];·grind
  ·rw[Tn];·grind
   ·rw[Tn];·grind
    ·rw[WD];let o:=nS _ (alV (Cdo).text);let Q:10^An [Csg,(Cdo),Awb]<=10^2:=OF;grind
def alX(h:newName l r=KY n):(65<=Bce/\Bce<=90/\Brg<=99)/\Bjv Awz n:=by grind[newName,alW]
def ab3(V:Dy)(h:Ave r=KY i):yB l i:=by
 rw[Tu,Lk.line];cases T:Dez with
 |none=>grind
 |some x=>
  rw[Tg,T];rw[Tj,_,g,hw,h,jK h];rw[Tn];·grind
  ·rw[TF,L];rw[Tj,j,P,H,h,jK h];rw[Tj,_,r3,_,h,jK h];rw[WD];injection h with W N;subst W;rw[Tj,n,U,f,H,Adh];rw[Tc,_,f,bU f];rw[Tc,⟨n1,J,K⟩,n4,alX f];let X:Ah<24:=by grind[LINES]
   rw[Tz,H]
   ·rw[Tj,x,s,hx,H,Adh];rw[Tj,y,A,Q,H,Adh];rw[Tc,_,hx,bU hx];rw[Tc,_,Q,bU Q];rw[Tz,H];·cases H
    ·rw[TF,M];rw[Yd];rw[Xb];subst W;show[DB,n1,J,K,n4,X,ab1 hx,ab1 Q,HK j C (M ?_)];rw[saq];rw[Tp,j,C,Cuy e]
   ·rw[Tj,p,s,Y,H,Adh];rw[Tc,_,Y,bU Y];let c:=fO Y;rw[Tz,H];·cases H
    ·rw[TF,R];rw[Tj,v,A,O,H,Adh];rw[Tc,_,O,bU O];rw[Yd];rw[Xb];subst W;let:=oh O;rw[jE Ccx V.g4 c]at R;show⟨n1,J,K,n4,X,c,by simpa using R,Ccy,this.2,AE⟩
   ·rw[Tj,p,s,Y,H,Adh];rw[Tc,_,Y,bU Y];let c:=fO Y;rw[Tj,a,A,M,H,Adh];rw[Tc,_,M,bU M];rw[Tj,k,t,Z,H,Adh];rw[Tc,_,Z,bU Z];let o:=fO Z;rw[Tz,H];·cases H
    ·rw[TF,l0];rw[Tz,H];·cases H
     ·rw[Tj,b,B,d,H,Adh];rw[Tc,_,d,bU d];rw[Yd];rw[Xb];subst W;let G:=oh M;let z:=oh d;show⟨n1,J,K,n4,X,c,o,E_ (l0 Aww),G.1,G.2,HI,Hf,by rw[TC,DYADS,L];omega⟩
   ·rw[Tj,p,s,Y,H,Adh];rw[Tc,_,Y,bU Y];let c:=fO Y;rw[Tj,k,t,Z,H,Adh];rw[Tc,_,Z,bU Z];let o:=fO Z;rw[Tz,H];·cases H
    ·rw[TF,l0];rw[Tj,u,B,F,H,Adh];rw[Tc,_,F,bU F];rw[Tj,v,m,O,H,Adh];rw[Tc,_,O,bU O];rw[Yd];rw[Xb];subst W;rw[UF,w,p,k,e,l0 (AK Aww)];let tg:Bqn p k=Aa:=by cases I:Bqn p k with|true=>rfl|false=>rw[Ug,Bw I,l0]
     rw[nQ Ccx V.g4 c o w]at tg;show⟨n1,J,K,n4,X,c,o,w,tg,ab2 F,ab2 O⟩
def alY{U:sM}(Y:t4 x=Aa):Io r (.yl 5 Ava) (Bi::U) o=Dr Adq (o++[Ll 5 [x,Pm]]):=by
 rw[VS,f,Bi::U,A];rw[Yu,h,uj A 0,Bi,f]
 change Kp (uy r Ava A o) (λC o=>(Con (sbQ 5 C) [Il,Bka,(o++[uR.obj 5 I]),D.cell Cf]))=_;rw[ajE,aaq,h];rw[VC,aap,bJ,ajD];change v7 (Gv [x,JS 0] t4) _ _=_;rw[xz,Y];rfl
def S0(o:sd)(t:Ak)(l:Linkage):sd:=o++[sar t 0,Dq Ht]
def dh(o:sd)(t:Ak)(l:Linkage)(k:Nat):Ace k=o++[sar t k,Dq Ht]:=by unfold uv S0;rw[sft _ _ Do,zm];rfl
def ab4(l:Linkage)(k:Nat)(t:Ak)(h:Cp=Ad):Ave CD=Axr:=by rw[XB];rw[bb,h];rfl
def alZ(t:Ak)(k:Nat)(Z:Je):Abt (CD).text↔k<AH:=by change Abt Dn↔_;rw[ne_eq,List.drop_eq_nil_iff];omega
def sd4(t:Ak)(a k:Nat)(l:Linkage):Except Aw Arf:=if k<AH\/l=[]then Bjo l CD else [Bo,Dx=0,Axr,EG l]
def al_(m n:Nat)(K:Alp<m)(o:sd)(t:Ak):Cg (n+10) 88 [Amm]=[Amf,2048<AH,-2,match Bjp with|.error e=>CM [-6,1,LG] o|.ok l=>Ceq]:=by
 let H:∀o:sd,Bpk o [Amm]=BN [AT,AH]:=by intro o;unfold xP;rw[iS,sr]
 rw[aiM,Ap];rw[Tv,2048<AH];·rw[NA];let C:Gp (Buh>2048)=Aa:=Db;rw[Uh,sca,H,C,sL,sC]
 ·rw[Nw];rw[UW,C,Gp (Buh>2048)=Af];let g:QW (o++[uR.obj 5 [Amm,Pm]]) []=uv (Bvf []) Cf t 0:=by rw[dh];simp[sar]
  let P:∀l,Cf<An [Bvf,l]:=by intro l;unfold S0;rw[su];change _<Cf+2;omega
  let W:∀l k,vg (Ace k) (FX (Cf+1)) l:=by intro l k;show abA ?_;rw[dh,Btt];rw[FZ (Cf+1-Cf=1)];rfl
  let B:∀l k,Hu [Ace,k] Cf=o:=by intro l k;rw[dh,Bsy]
  let b:=fg (cl:=Bb (n+9)) (m:=m) (c:=PN .lt [Azz,5,1] Kw) (b:=FA [Rg,2,Aix 87 HW]) (λA I=>∃l k a,Dy/\Je/\AH+1-k<=a/\A=[Bwu,El,JD (Cf+1)]/\I=Ace k/\Bjp=sd4 t a k l) [KJ,I,Cyq I[Cf]? (AH-PM)] (λr=>(∃l,Bjp=[Cv,l=[]\/Dx=0,Gy AH,EG l]/\r=DJ [Bwu,El,JD (Cf+1)] (Ace AH))\/(∃e l k,Bjp=KI/\r=CM [-6,1,LG] (Ace k))) (by
   rintro A I⟨l,k,a,V,kl,j,rfl,rfl,w⟩;rw[Te,cr,T,O,Bgm];rw[Td,hk,k<AH]
   ·let d:Bkd Ey AH=Aa:=Db;rw[TN,FY (by rw[Wm,sh0 (P l),H,d])];let N:=alP (P l) (W l) m n Ac Ccx V.g4 cr T (k:=k) Ac;rw[TC,sd4,w];rw[Ux,(AK hk),w];rw[Us,a,rfl,f,a=f+1,a-1,AE];let w:Bjp=(Cof l CD KI [Avo,Bvq,Bjo Dt q,[Bo,Ix Dt=0,Gy CF,EG Dt]]):=w;cases J:Ave CD with
    |error e=>rw[J]at N w;obtain⟨v,l0⟩:=N;rw[VX,⟨[-6,1,LG],Ace v,?_,Bw [DL,e,l,v,w,Ab]⟩];rw[iP,e_ (a:=Cf+1) Em (by unfold uT;rw[dh,Btt,FZ (Cf+1-Cf=1)];rfl)];rw[UM,l0]
    |ok x=>
     rw[UR,i];let R:=ab3 V J;let c:=alS J;rw[J]at N w;obtain⟨G,u,F⟩:=N;let c:k<CF:=c;rw[TB,⟨[Bwu,El,JD (Cf+1)],uv (Bvf Dt) Cf t CF,?_,⟨l++[i],CF,a,V.snoc R,F,AE,Ab,Ab,?_⟩,?_⟩]
     ·let ge:(Ace CF)[Cf+1]?=Aia Ht:=by rw[dh,Btt];rw[FZ (Cf+1-Cf=1)];rfl
      let M:Bl Bsi uq=Aa:=Bx (by rw[sr];unfold uq;omega);let p:Ip (Ace CF) (Cf+1) [DK,Ht++[Gi]]=uv (Bvf Dt) Cf t CF:=by rw[dh,dh,sft _ _ Ac,FZ (Cf+1-Cf=1)];simp
      rw[iP,e_ (a:=Cf+1) Em (by unfold uT;rw[dh,Btt,FZ (Cf+1-Cf=1)];rfl)];simp only[csAll,G,sae,ge,M,de,p]
     ·rw[w];rw[TD];unfold sd4;let y:Bvq↔CF<AH:=by let:=alZ t CF F;rw[Xm,u];rw[TQ]
      rw[Td,Z,CF<AH];·rw[Av (y.mpr Z),Av (AK Z),<-u]
      ·let nn:¬(CF<AH\/l++[i]=[]):=by
        rintro(h|h);·show Z h
        ·simp at h
       rw[Azn (Z (y.mp e)),AF nn]
     ·rw[sfy (P _),sfy (P _)];change AH-Ahj CF<AH-DQ Ey;rw[sP,sP];omega
   ·rw[Vr,k=AH]
    rw[UW,d,Blg AH AH=Af];show FJ (by rw[Wm,sh0 (P l),H,d]) [AK,Aho l Ab];rw[w];unfold sd4;rw[Td,U,l=[]];·rw[Av (Bw U),Av (AK U)];rw[Us,a,rfl,f,a=f+1,a-1,AE];change(Cof l (Hl AH) _ _)=_;rw[ab4 l AH t (zj Do)]
    ·rw[Bui U];rw[Td,L,Dx=0];·rw[Av L,Av (Bw L)]
     ·rw[AF L,AF (by simp[U,L])]) [Bwu,El,JD (Cf+1)] (uv (Bvf []) Cf t 0) ⟨[],0,AH+1,VL.nil,AE,AE,Ab,Ab,by unfold sd4;rw[Av Aot];rfl⟩ (by rw[sfy (P _)];change AH-Ga Bnx<m;omega);let Y:HA o [uR.obj 5 [Amm,Pm]]=Cf+1:=DY su
  rcases b with⟨l,w,s⟩|⟨e,l,k,w,s⟩
  ·let X:=nI (W l AH) m (n+8) FN;rw[abx]at X;rw[Td,L,Dx=0]
   ·rw[Ux,(Bw L),w];rw[w];let M:FU Dx 0=Aa:=Db;rw[UX,Q,sdn Cf (CM [-6,1,Buh] (Ace AH):Mr),CM [-6,1,Buh] o,mv,B]
    simp only[sca,csAll,H,C,Cwg Ab,cM,Y,g,s,X,M,sL,sC,Q]
   ·rw[UF,hn,l,[],e,L (DY e)];rw[Uz,(by simp[hn,L]),w];rw[w];rw[UW,M,FU Dx 0=Af];let fz:Io (Bb (n+9)) Bss [Bwu,El,JD (Cf+1)] (Ace AH)=Dr CL [Ip,(Ace AH),(Cf+1),Adx]:=by
     rw[e9 (a:=Cf+1) (xs:=Ht) Em];·rfl
     ·rw[dh,Btt];rw[FZ (Cf+1-Cf=1)];rfl
    let Q:Awq [Amv,CL,Ip (Ace AH) (Cf+1) Adx]=Ceq:=by rw[fe,List.take_set_of_le Ac,B];rfl
    simp only[sca,csAll,H,C,Cwg Ab,cM,Y,g,s,X,M,fz,Q]
  ·rw[w];rw[UX,Q,sdn Cf (CM [-6,1,LG] (Ace k):Mr),CM [-6,1,LG] o,mv,B]
   simp only[sca,csAll,H,C,Cwg Ab,cM,Y,g,s,Q]
def ab5:∀(a:Nat){l k:Linkage}{r:Rest},Dy->Bjo l r=EG k->VL k/\0<Ix k
|0,l,k,r,_,h=>SF
|a+1,l,k,r,V,h=>by
 rw[TM,(Dab r KI [Avo,Bvq,Lk.lines ..,[Bo,Ix _=0,Gy _,EG _]])=(EG k:Except ..)];cases U:Ave r with
 |error e=>grind
 |ok x=>
  rw[Tg,U];let m:=V.snoc (ab3 V U);rw[Vb,h];rw[Tn];·show ab5 _ m h
  ·grind
def al0{t:Ak}(h:Bjp=EG l):Dy/\0<Dx:=ab5 _ VL.nil h
def sjS(n:Nat):Ak:=DZ (n<10) [48+n] [Bem,n<Cc,[48+n/10,48+n%10],[48+n/Cc,48+n/10%10,48+n%10]]
def fP(h:n<BI):JV=Aek:=by
 let:∀n,n<BI->JV=Aek:=K_
 grind
def ab6(z:Int):vL z=Asr:=rfl
def oj(n:Nat):vL LD=JV:=Ch
def g5(h:Adf GD):Azm z=Aa:=by grind[uE,cN]
def al1{c:Nat}(G:65<=c)(z:c<=90)(o:sd):Ajn (Cw [65,66,67,68,69,70,71,72,73,74,75,76,77,78,79,80,81,82,83,84,85,86,87,88,89,90]) (Ec (Gg-65))=BN Ahu:=by
 let C:Eu (k<26->([65,66,67,68,69,70,71,72,73,74,75,76,77,78,79,80,81,82,83,84,85,86,87,88,89,90])[k]?=As (65+k)):=DC
 change Cv (0<=Gg-65) Asp AJ=_;rw[Nj,Of (DQ (Gg-65)=c-65),C _ Ac,FZ (65+(c-65)=c)];rfl
def oo(n:Nat):An Aek<=3:=by grind[sjS]
def ab7(m n:Nat)(o:sd)(G:65<=N.letter)(z:N.letter<=90)(F:Brh<=99):Cg (n+1) 94 [Aoj]=BN [Ft,L_ N]:=by
 let V:=al1 G z o;rw[Ti,f,t8 _=PK _ Brh];rw[f,aiR,Ap,nameText];rw[Tv,Brh=0];·let s:FU Brh 0=Aa:=Db;simp only[NA,se2,csAll,bZ,b_,V,s]
 ·rw[UW,s,FU Brh 0=Af];let J:[Asi,AG [N.letter],vL Brh]=Aa:=aP (by grind[oj,fP,oo]);rw[Nw];let l:sY 1 _=Aa:=J;simp only[se2,csAll,bZ,b_,V,s,(g5 (z:=N.number) Ac),<-oj,l,csAll]
def ab8(m n:Nat)(o:sd)(h:xi q):Cg (n+1) 95 [wg q]=BN [Blc,q]:=by
 rw[UJ,G,z];rw[Ti,Z,wg q=BH _];let r:=g5 (z:=q.num) Ac;rw[Z,aiS,Ap,fractionText];rw[Tv,q.den=1];·let d:AQ [Cfb,q] 1=Aa:=Db;simp only[NA,ud,<-ab6,se3,csAll,bZ,b_,d,r]
 ·rw[UW,d,AQ [Cfb,q] 1=Af];simp only[Nw,<-ab6,<-oj,se3,csAll,bZ,b_,d,r,(g5 (z:=q.den) Ac)]
def al2(h:f Ax BE A o=R_):uG f (Ly [p]) 1 0 A o=R_:=by simp_all[uG,sN.turn,sA.bind]
def al3(h:f Ax BE A o=DJ g K)(z:f CG JU g K=DJ I u):uG f (Ly [p,q]) 2 0 A o=DJ I u:=by simp_all[uG,sN.turn,sA.bind]
def ab9(h:Ail=FH C):sbP o .add (Jv) (CW b)=v7 (sY BC Aic) o [DK,C++b]:=by change(match uS ..,uS .. with|some x,some y=>v7 ..|_,_=>AJ)=_;grind[uS]
def uW(l:Linkage)(i:Item):Qb:=Dgm [ascii "pin",L_ MU,Aks x,Aks y] [ascii "crank",L_ MU,Aqo,MQ r] [ascii "dyad",L_ MU,Aqo,MQ a,Po q,MQ b] [ascii "rider",L_ MU,Aqo,Po q,Auq u,Auq v]
def eo(l:Linkage)(i:Item):Cwh i=Amn (uW l i)++[10]:=rfl
def xR(n:Lk.Name):Al:=65<=Bce/\Bce<=90/\Brg<=99
def sfC:Cbp|.pin x y=>Adf [AX,x]/\Adf [AX,y]|.crank _ r=>Adf r|.dyad _ a _ b=>Adf a/\Adf b|.rider _ _ u v=>xi u/\xi v
def aca(h:CS=Ju):Po k=L_ MU:=Ddd
def al4(m n:Nat)(o:sd)(f:∀j∈l,xR Awz){W:Ak}(F:∀u∈W,u<Ah){ρ:QE LI}(R:Akq o 0 i (FF 2)=Jh (W.map Avy)):Io (Bb (n+1)) [Lz,Aov,6,Bhd (Gf (Bnl) 1)] [BL,Ju,Ad,Ad,Ad,Ad,Ad,Ad,Ad] o=Mn [Bp,W.map λu=>Po u,LK]:=by let L:=aA (cl:=Bb (n+1)) (it:=Et [Gf,AL,2]) (i:=6) (j:=99) (b:=Bhd (Gf (Bnl) 1)) (ρ:=[BL,Ju,Ad,Ad,Ad,Ad,Ad,Ad,Ad]) (st:=o) (s:=Et [HJ,W.map [Bin,JS k]]) (Abz [Alz,PM]) [Brk,R] Aou (by rw[U'];rw[Ui,x,O,Y];rw[Ui,u,h,O];let U:=F u h;let V:=Dz U;let C:=(cR (st:=o)).idx V;rw[Te,X,A,H,f _ (zg U)];let N:=ab7 m n o X A H;rw[Vt,C,gW];grind[aca]);simp_all
def al5(o:sd){n:Nat}(h:Adf n):vv o LK [AT n]=BN [Ahi,n]:=Agj aaz (g5 Ac)
def acb(o:sd)(h:Adf GD):vv o LK [Aeq]=BN [Ft,Asr]:=Agj aaz (g5 h)
def acd(h:Ano=JD Iv)(O:ev cl e ρ (QW st xs)=Ew v (QW st xs))(Y:Ajs=Aa)(U:Bbn<BI):Mo cl (.app i e) ρ (QW st xs)=DJ ρ (QW st (xs++[v])):=by
 rw[e_ h mu,O,bJ,sae];let P:(QW st xs)[Iv]?=Bnb:=AY
 rw[P];rw[TD];rw[Y,Bx Cre,Bool.and_self,JO,gT]
def oq{r:Nat}(w:Adf r)(U:BC<900)(q R:LI):Ml (LX) [Fc,.app 3 CT,Rg 3 [Ld,LK,Qm]] (Ip (Ip [BL,Ju,Ae P,El,q,R,Ad,Ad,Ad] 4 (Lm a)) 5 (Cd r)) (Jm C)=DJ [BL,Ju,Ae P,El,Lm a,Cd r,Ad,Ad,Ad] (Jm (C++[Cw a]++[Ahi r])):=by let W:=acd (cl:=LX) (m:=m) (i:=3) (e:=Dg) (ρ:=[BL,Ju,Ae P,El,Lm a,Dv r,Ad,Ad,Ad]) (xs:=C) Ab Em Ab Ac;let N:=acd (cl:=LX) (m:=m) (i:=3) (e:=Ld LK Qm) (ρ:=[BL,Ju,Ae P,El,Lm a,Dv r,Ad,Ad,Ad]) (st:=o) (xs:=C++[Cw a]) (v:=Ahi r) Ab [Brk,al5 _ w] Ab Ag;rw[Vt,W,N]
def al6(m n:Nat)(o:sd)(f:∀j∈l,xR Awz)(V:xR MU)(F:∀u∈Bby DM,u<Ah)(Z:sfC DM):Fa 2 96 CL Gi=Mn [Bp,uW l i,LK]:=by
 let T:=al4 m n o f F (i:=Gi) (ρ:=[]) nJ;obtain⟨X,R,H⟩:=V;let N:=ab7 m n o X R H;rw[Tx,P,∀C,(Jm C)[Cf]?=FH C,C,AY]
 let Q:∀(C:Fs)(c:uR),Awq [Amv,Fo,o++OG]=BN Fo:=by intro C c;rw[fe,Bsy];rfl
 let J:∀a b:Aw,a+b<=BI->sY a b=Aa:=λa b h=>aP h;obtain⟨K,ln⟩:=i;rw[aiT,Ap];cases ln with
 |pin x y=>
  rw[XM,k,U];let L:=aA (cl:=Bb (n+1)) (it:=Et Aod) (i:=8) (j:=99) (b:=Aut LK Kz) (ρ:=[BL,Hq [QI,K,x,y],FH [],El,Ad,Ad,Ad,Ad,Ad]) (st:=Jm [Rh,NP]) (s:=Et [PK,x,y]) (items:=[Ahp x,Ahp y]) (Abz [Ft,Asr]) Em (Bix [AZ x,AZ y]) (by
   rw[U'];rw[Tq,Y,p=Ahp x\/p=Ahp y]
   rw[XX];·rw[TY,Ala (acb _ k)]
   ·rw[TY,Ala (acb _ U)]);let B:Io (Bb (n+1)) [Lz,(Aod),8,Aut LK Kz] [BL,Hq [QI,K,x,y],FH [],El,Ad,Ad,Ad,Ad,Ad] (Jm [Rh,NP])=[Dr,CW [Ft [Aks,x],Ft [Aks,y]],Jm [Rh,NP]]:=L;let A:Io (Bb (n+1)) [Lz,Aov,6,Bhd (Gf (Bnl) 1)] [BL,Hq [QI,K,x,y],Ad,Ad,Ad,Ad,Ad,Ad,Ad] o=BN Aaf:=T;let t:=Chl [QI,K,x,y];let w:=Chs [QI,K,x,y] [Rh,NP];let I:=Chm [QI,K,x,y];rw[Ti,W,tK [QI,K,x,y]=HX];rw[W]at t w;simp only[scb,↓B,↓A,csAll,t,w,I,N,cM,d6,c9,ab9 (P _),J 2 2 Ac,Q];rfl
 |crank p r=>
  let k:Adf r:=Z;let A:Io (Bb (n+1)) [Lz,Aov,6,Bhd (Gf (Bnl) 1)] [BL,Ceo K r,Ad,Ad,Ad,Ad,Ad,Ad,Ad] o=Cca [No]:=T;let t:=Chl [Afp,K,r];let w:=Chs [Afp,K,r] [Mu,NP];let I:=Chm [Afp,K,r];rw[Ti,W,tK [Afp,K,r]=FN];rw[W]at t w;let s:Mo (Bb (n+1)) (.ww 4 5 (.zip Bj (Aod)) [Fc,.app 3 CT,Rg 3 [Ld,LK,Qm]]) [BL,Ceo K r,FH [No],El,Ad,Ad,Ad,Ad,Ad] (Jm [Mu,NP])=DJ [BL,Ceo K r,FH [No],El,Lm (Aqo),Cd r,Ad,Ad,Ad] (Jm [Mu,NP,No,Ahi r]):=[Cb,iT (s:=Ly [(No,RA)]) (n:=1) Em Ab,al2 (oq k AN Ad Ad)]
  rw[UX,O,Io (Bb (n+1)) Ckv [BL,Ceo K r,FH [No],El,Lm (Aqo),Cd r,Ad,Ad,Ad] (Jm [Mu,NP,No,Ahi r]),[Dr,CW [Mu,NP,No,Ahi r],o++[Adx]],Ddh (P _),gT]
  simp only[scb,↓A,csAll,t,w,I,N,cM,d7,da,s,O,Q];rfl
 |dyad p a q b=>
  rw[XM,k,U];let A:Io (Bb (n+1)) [Lz,Aov,6,Bhd (Gf (Bnl) 1)] [BL,Cen K q,Ad,Ad,Ad,Ad,Ad,Ad,Ad] o=Cca [No,Alz q]:=T;let t:=Chl [Qw,K,q];let w:=Chs [Qw,K,q] [IK,NP];let I:=Chm [Qw,K,q];rw[Ti,W,tK [Qw,K,q]=GB];rw[W]at t w;let s:Mo (Bb (n+1)) (.ww 4 5 (.zip Bj (Aod)) [Fc,.app 3 CT,Rg 3 [Ld,LK,Qm]]) [BL,Cen K q,FH [No,Alz q],El,Ad,Ad,Ad,Ad,Ad] (Jm [IK,NP])=DJ [BL,Cen K q,FH [No,Alz q],El,Lm (Po q),Cd b,Ad,Ad,Ad] (Jm [IK,NP,No,Ahi a,Alz q,Ahi b]):=[Cb,iT (s:=Ly [(No,Azp),(Alz q,En)]) (n:=2) Em Ab,al3 (oq k AN Ad Ad) (oq U AN _ _)]
  rw[UX,O,Io (Bb (n+1)) Ckv [BL,Cen K q,FH [No,Alz q],El,Lm (Po q),Cd b,Ad,Ad,Ad] (Jm [IK,NP,No,Ahi a,Alz q,Ahi b]),[Dr,CW [IK,NP,No,Ahi a,Alz q,Ahi b],o++[Adx]],Ddh (P _),gT]
  simp only[scb,↓A,csAll,t,w,I,N,cM,d8,dc,s,O,Q];rfl
 |rider p q u v=>
  rw[XM,k,U];let A:Io (Bb (n+1)) [Lz,Aov,6,Bhd (Gf (Bnl) 1)] [BL,Hq [JF,K,p,q,u,v],Ad,Ad,Ad,Ad,Ad,Ad,Ad] o=Cca [No,Alz q]:=T;let G:=ab8 m n (Jm [PZ,NP]) k;let M:=ab8 m n (Jm [PZ,NP]) U;let L:=aA (cl:=Bb (n+1)) (it:=Et Aod) (i:=7) (j:=99) (b:=HR 95 Asq) (ρ:=[BL,Hq [JF,K,p,q,u,v],FH [No,Alz q],El,Ad,Ad,Ad,Ad,Ad]) (st:=Jm [PZ,NP]) (s:=Et [CN,Ane,Axg]) (items:=[DA Ane,DA Axg]) (λp=>@ite D (Ax=Ane) (Ban) (Blc u) (Blc v)) [Cbn,sw,bp] (Bix [Ane,Axg]) (by
   rw[U'];let Y:p=DA Ane\/p=DA Axg:=by rw[XG]
   rw[XX];·rw[JO];rw[TY,Ala G]
   ·rw[Um,Axg=Ane];·rw[Av e];rw[TY,by rw[Vt,e,G]]
    ·rw[AF e];rw[TY,Ala M]);let g:[Agt Ane,Agt Axg].map (λp=>@ite D (Ax=Ane) (Ban) (Blc u) (Blc v))=[Blc u,Blc v]:=by
   rw[tz,tz,yY,JO];rw[Um,Axg=Ane];·rw[Av e];rw[e,G]at M;let:=(Cjh M).1;rw[this]
   ·rw[AF e]
  rw[g]at L;let t:=Chl [JF,K,p,q,u,v];let w:=Chs [JF,K,p,q,u,v] [PZ,NP];let I:=Chm [JF,K,p,q,u,v];rw[Ti,W,tK [JF,K,p,q,u,v]=IL];rw[W]at t w;simp only[scb,↓L,↓A,csAll,t,w,I,N,cM,ed,ab9 (P _),J 2 2 Ac,J 4 2 Ac,Q];rfl
def ace:∀l:Qb,wa [32] l=Amn l|[]=>rfl|[w]=>rfl|w::v::r=>by change w++[32]++wa ..=w++EH [Amn,_];rw[ace _,uk];rfl
def acf:∀l:Qb,wa [] l=l.flatten|[]=>rfl|[w]=>CO wa|w::v::r=>by change w++[]++wa ..=_;rw[acf _,ud];rfl
def acg(h:Cpf+Ah*Qc<=100000):Aej Axt [Cw s,Cby LK]=Ce [Ft,wa s l]:=by change(Cov (zU _) AJ)=_;rw[aaw];rw[TD];rw[Bx Cre];rfl
def fQ(h:Dm n):An JV<=3:=by grind[fP,oo]
def ot(h:Bxb):An Asr<=4:=by grind[wholeText,fQ]
def ach(h:xR n):An [L_,n]<=4:=by unfold nameText;let:=fQ (n:=n.number) [Bpa,DI];grind
def aci(h:xi q):An [Auq,q]<=8:=by unfold fractionText;let:=ot Bk;let:=fQ (n:=q.den) [Bpa,Ck];grind
theorem VL.item(V:Dy)(H:i∈l):∃k,CS=Ju/\yB NE i:=by rw[Wk,k,Z,H];rw[Tp,k,Z,V k i Z]
theorem VL.name(V:Dy):∀i∈l,xR MU:=by intro i H;rw[Te,k,_,R,Byw];rw[Tp,R.a,R.z,R.n]
theorem VL.nums(V:Dy):∀i∈l,sfC DM:=by intro i H;rw[Te,k,Z,R,Byw];rw[WK];unfold sfC;cases f:i.line with|pin x y=>rw[Up,f];rw[VD,G,z,_];grind|crank p r=>rw[Up,f];rw[Wj,_,_,_,h,_];grind|dyad p a q b=>rw[Up,f];rw[Wz,_,_,_,_,L,_,T,_];grind|rider p q u v=>rw[Up,f];obtain⟨_,_,_,_,L,I⟩:=U;grind
theorem VL.used(V:Dy):∀i∈l,∀u∈Bby DM,u<Ah:=by intro i H u F;rw[Te,k,Z,_,Byw];let:=V.uses k i Z u F;grind
def g6(f:∀i∈l,xR MU)(k:Nat):An [Po,k]<=4:=by grind[nameOf,ach]
def ou(V:Dy)(H:i∈l):((uW l i).map (·.length)).sum+An (uW l i)*1<=60:=by let f:=V.name;let N:=ach (f i H);rw[Te,k,Z,R,Byw];rw[WK];unfold uW;cases h:i.line with|pin x y=>rw[Up,h];let:=ot U.1;let:=ot U.2.1;grind[ascii]|crank p r=>rw[Up,h];let:=g6 f p;let:=fQ U.2.2.2.1;simp[ascii];omega|dyad p a q b=>rw[Up,h];rw[Wz,_,_,_,_,L,_,T,_];let:=g6 f p;let:=g6 f q;let:=fQ L;let:=fQ T;simp[ascii];omega|rider p q u v=>rw[Up,h];obtain⟨_,_,_,_,L,I⟩:=U;let:=g6 f p;let:=g6 f q;let:=aci L;let:=aci I;simp[ascii];omega
def jL:∀l:Qb,An [Amn,l]<=Cpf+Ah*1|[]=>CO spaced|[w]=>CO spaced|w::v::r=>by let:=jL (v::r);change HA w [EH,Amn _]<=_;grind
def al7(m n:Nat)(o:sd)(V:Dy):Cg (n+3) 97 [CL]=BN (xP (Lg)):=by
 let O:=(Bgm).2.2;let L:Io (Bb (n+2)) [Lz,Bf,2,ED [Bki,Axt,Sw [32],Cll] [Sw,[10]]] [BL,Ad,Ad,Ad] o=Mn [Bp,Ci (Avv l),LK]:=by
  let C:∀i∈l,Io (Bb (n+2)) [ED,Bki Axt [Sw,[32]] Cll,Sw [10]] [BL,Ad,Hq i,Ad] o=BN [Ft,Cwh i]:=by intro i H;let w:=al6 m n o V.name (V.name i H) (V.used i H) (V.nums i H);let W:=ou V H;let j:=acg (st:=o) (s:=[32]) (l:=uW l i) Ag;let y:=jL (uW l i);let J:sY [An,Amn (uW l i)] 1=Aa:=aP Ac;rw[ace]at j;rw[WF,w,j,J,eo]
  rw[Tq,g,∀d∈Bp Ht (λx=>Agt x),∃i∈l,d=Agt Gi]
  let L:=aA (cl:=Bb (n+2)) (it:=Aim) (i:=2) (j:=99) (b:=ED [Bki,Axt,Sw [32],Cll] [Sw,[10]]) (ρ:=[BL,Ad,Ad,Ad]) (st:=o) (λp=>@dite D (∃i∈l,Ax=Gi) (Ban) (GG [Ft,Cwh (Bim h)]) (Ej Bt)) Ab Aou (by rw[U'];rw[Te,i,H,rfl,g p Y];let ex:Bet (Gi=sw a):=Atz i H;rw[Bza];show Anf;grind);rw[L];congr 2;rw[sO,sO,sO];show Avx i H;let ex:Bet (Gi=sw a):=Atz i H;grind
 let s:=by
  let C:∀(k:Linkage),(∀i∈k,i∈l)->((k.map (lineText l)).map (·.length)).sum<=Bco*61:=by intro k Z;induction k with|nil=>simp|cons i k I=>let G:=I λj B=>Z j (MA B);let z:=ou V (Z i Avl);let F:=jL (uW l i);rw[tz,tz,List.sum_cons,sT,eo,su,s0];omega
  show C l [Abw,h]
 let b:=acg (st:=o) (s:=[]) (l:=Ci (Avv l)) (Li s Ac);rw[acf]at b;rw[VE,f,(Ci (Avv l)).flatten,Lg,Lk.print,List.flatMap_def]
 rw[f]at b;let A:=aA (cl:=Bb (n+2)) (it:=Aeg) (i:=3) (j:=99) (b:=Cpe NH) (ρ:=[BL,Lm (Lg),Ad,Ad]) (st:=o) (s:=Ly (Ana Lg c Chz)) (items:=Ana Lg c Chz) (λp=>Daw [AZ,c]) Ab ff (by rw[U'];rw[Ui,c,_,Y];rw[TY,Dff]);let v:Bp [Ana,Lg,c,Chz] (λp=>Daw [JS,c])=Nz Lg λ(c:Nat)=>JS c:=DY sO
 rw[v]at A;rw[aiU,Ap];simp only[shu,↓L,↓A,csAll,b];rfl
def sfD(r:Ak):Al:=SW Clr Awb=Af
def acj{t:Ak}(h:Dn=x++r)(j:Nat)(C:j<AD):t[k+j]?=x[j]?:=by rw[<-sd0,h,xK C]
def b7{t:Ak}(h:Dn=x++r):Adl (k+AD)=r:=by rw[<-sdX,h,shC Ab]
def ack(h:Dn=c::r):want c CD=PL () (k+1):=by
 unfold want;let:Cp=AW:=Akv [Brm,OG,h,0]
 rw[bb,this,JO,aV]
def fS{f:Rest->Asm}(h:Dn=32::r):Sr f CD=f (Hl (k+1)):=by grind[then_,ack]
def b8{t:Ak}(h:Dn=c::r):Adl (k+1)=r:=b7 (x:=OG) h
def di:∀(w:Ak){t r:Ak}{k:Nat},Dn=w++r->Ayw=PL () (k+AG w)
|[],t,r,k,h=>rfl
|c::w,t,r,k,h=>by
 let:Cp=AW:=Akv [Aty,h,0]
 rw[abS,di w (b8 h)];grind
def jM:∀n,n<BI->Gv (Aek) Awb=Aa/\Aqa Aek=n/\(Bvr Aek=Ae 48->Aek=[48])/\Abt Aek/\(n<=99->An Aek<=2)/\(CV n->(Aek).headD 49≠48)/\(CV n->Bvr Aek≠Ae 48):=K_
def jN:∀(x r:Ak),x.all p=Aa->SW Clr p=Af->(x++r).takeWhile p=x|[],[],_,_=>rfl|[],c::r,_,h=>Csa|a::x,r,h,w=>by rw[Vp,h];rw[sdN,sfA,Av Bk,jN x r Ck w]
def acl{r:Ak}(f:Dm n)(h:Dn=JV++r)(w:Aff):GS=Aek:=by rw[scv,h,fP Ac];show jN _ _ (jM n Ac).1 w
def ow{r:Ak}(f:Dm n)(h:Dn=JV++r)(w:Aff):Bnh=PL n (k+An JV):=by rw[Tk,G,y,N,z,_,jM n Ac];let j:=acl f h w;let i:=oo n;rw[gZ,fP Ac];grind
def acm(f:Dm n)(r:Ak):∃c y,JV++r=c::y/\Awj c=Aa/\(CV n->GJ 48):=by rw[Vd,G,_,_,z,_,_,F,jM n Ac];rw[fP Ac];cases O:Aek<;>grind
def g7{r:Ak}(B:Bxb)(h:Dn=Asr++r)(w:Aff):Bni=PL z (k+An Asr):=by
 rw[Wn,wholeText,h];rw[Yr];rw[bb,aV,bb];rw[Td,f,z<0]
 ·rw[TX,f,h];rw[TM,Dn=45::(MQ _++r)];let d:Cp=Ae 45:=by let:=Brm [45] h 0;grind
  let G:=b8 h;rw[Tk,c,y,e,L,H,acm B r];let M:t[k+1]?=AW:=by rw[T_,e];let:=Brm OG G 0;grind
  rw[Av d,ow B G w];grind
 ·rw[TR,f,h];rw[TM,Dn=MQ _++r];rw[Tk,c,y,e,L,_,acm B r];let d:Cp=AW:=by rw[Tg,e];let:=Brm OG h 0;grind
  let n:¬Cp=Ae 45:=by rw[d];intro e;injection e with e;rw[Uo];rw[T',L,Dc]
  rw[AF n,ow B h w];change Chn=Chn;congr 2;omega
def oy{r:Ak}(B:Bxb)(h:Dn=Asr++r)(w:Aff):Cce CD=PL z (k+An Asr):=by grind[n_,g7]
def jO(n:Nat):Aks LD=JV:=Ch
def jP{r:Ak}(G:1<=n)(f:Dm n)(h:Dn=JV++r)(w:Aff):length_ CD=PL n (k+An JV):=by rw[length_,g7 (z:=n) Ac (by grind[jO]) w,jO];rw[TD];rw[AF Dek,wc]
def acn{r:Ak}(Z:xi q)(h:Dn=Auq q++r)(w:Aff)(H:Clr≠Ae 47):Cao CD=PL q (k+An [Auq,q]):=by
 rw[XM,G,z];rw[Wn,fractionText,h];unfold fraction;rw[Td,j,q.den=1]
 ·rw[Av j,ud]at h|-;rw[g7 G h w];rw[TD];let f:(Hl (k+An [Aks,Bfv])).head=Clr:=by change Bvr [Adl,_]=_;rw[b7 h]
  rw[f,Av H,AF Dek];let e:q=Bfv:=Rat.ext Ab j;grind
 ·rw[TR,j,h];rw[Tg,uk];let n:sfD (47::(MQ q.den++r)):=Ch
  rw[g7 G h n];rw[TD];let d:=b7 h;let f:(Hl (k+An [Aks,Bfv])).head=Ae 47:=by change Bvr [Adl,_]=_;grind
  rw[f,Aye,aV,ow Ac (b8 d) w];rw[TD];let i:=q.den_nz;let o:=q.reduced;rw[Cdy];congr 2;·show g_ ..
  ·rw[su,sT];congr 1;omega
def aco{r:Ak}(f:xR n)(h:Dn=L_ n++r)(w:Aff):Awk CD=PL n (k+An [L_,n]):=by
 rw[WI,C,I,F];rw[Wn,nameText,h];let g:=h;let d:Cp=Ae Bce:=by let:=Aty g 0;grind
 let A:=b8 g;rw[Lk.name,bb,d,aV];rw[TD];rw[My];rw[Ti,e,Csg Bev _=QB (k+1)];rw[e];rw[Td,H,Brg=0]
 ·rw[TX,H,A];let j:QB (k+1)=[]:=by rw[scv,A];show jN _ r Ab w
  rw[j,Aye,aV];·obtain⟨a,b⟩:=n;let H:b=0:=H;rw[H];rfl
 ·rw[TR,H,A];rw[Vd,G,y,N,z,B,c,_,jM Brg Ac];rw[(acl Ac A w),Aje (c H),My,aV,fP Ac,y,sT];grind
theorem VL.names(V:Dy){k:Nat}(M:Anh=Gj)(T:CS=Ae b)(h:j<k):a.name≠b.name:=by
 let:=(V k b T).new a (by
  let:(NE)[j]?=Gj:=by rw[sda h];show M
  show tV this);rw[TQ]
def al8(V:Dy)(h:CS=Ju):(l.findIdx? λj=>Awz==MU)=Ja:=by show abC (BV j a C M) h AN;let:=V.names M h C;rw[VO]
def dM(V:Dy){r:Ak}(F:u<Ah)(h:Dn=Po u++r)(w:Aff):known l CD=PL u (k+An [Po,u]):=by let H:=Dz F;rw[Ud,aca H,h];unfold known;rw[aco (V.name _ (zg F)) h w];rw[TD];rw[al8 V H]
def et{r:Ak}(f:xR n)(G:Bjv Awz n)(h:Dn=L_ n++r)(w:Aff):newName l CD=PL n (k+An [L_,n]):=by unfold newName;rw[aco f h w];rw[TD];rw[sjT];intro M;rw[Te,j,C,e,saq.mp M];show G j C Bii
def al9(r:Ak):sfD [EH,r]:=rfl
def ew(r:Ak):sfD (10::r):=rfl
theorem h32(r:Ak):[EH,r].head?≠Ae 47:=AY
def bC(r:Ak):Bvr (10::r)≠Ae 47:=AY
def ar(w v:Ak)(r:Qb)(s:Ak):Amn (w::v::r)++s=w++EH (Amn (v::r)++s):=by change(w++EH [Amn,(v::r)])++s=_;rw[uk];rfl
def ey(w:Ak)(s:Ak):Amn [w]++s=w++s:=rfl
def jQ{a:J}(h:Dn=32::(x++r))(R:Adl (k+1)=x++r->f (Hl (k+1))=PL a (k+1+AD)):Sr f CD=PL a (k+1+AD)/\Adl (k+1+AD)=r:=by let G:=b8 h;rw[Th,[Hy,fS h,R G],b7 G]
def acp(V:Dy)(R:yB l i)(W:∀u,u<Ah->Cmd u=Po u){r:Ak}(h:Dn=Cxn i++r):Ave CD=PL i (k+Cjb i)/\Adl (k+Cjb i)=r:=by
 let O:=b7 h;show Pu O;let ho:=h;rw[eo,uk]at h;let nm:xR MU:=Am R.a R.z R.n;let rm:=R.room;rw[WK];let u:=V.uses;let o:=V.g4;rw[VT,f];let l0:∀{q:Nat}{x:SV},Adl q=10::r->(Bde (Hl q)).next [KJ,q,(KY (Aj f H:IH):SV)]=PL [Aj,f,H] (k+Cea f H):=by
  intro q _ Z;rw[ack Z];change Except.ok (_,Hl (q+1))=_;let e1:Adl (q+1)=r:=b8 Z;congr 3;let X:An [Adl,(q+1)]=Ic:=by rw[e1]
  let a2:An [Adl,(k+Cea f H)]=Ic:=by rw[O]
  let q1:q<AH:=by
   let:An [Adl,q]=Ic+1:=DY Z
   rw[Tt,zH];omega
  let k1:Aay (k+Cea f H):=by
   let:An Dn=Cea f H+Ic:=Hy ho su
   rw[Tt,zH];let:0<Cea f H:=Bfr eo su
   omega
  rw[zH]at X a2;omega
 rw[XB];rw[bb];cases H with
 |pin x y=>
  rw[VD,x1,y1,G];let h:Dn=HX++EH (L_ f++EH (Aks x++EH (Aks y++(10::r)))):=by rw[h];unfold uW;rw[TD];rw[ar,ar,ar,ey];rfl
  let d:Cp=Ae 112:=by let:=Aty h 0;rw[VO]
  rw[d];change Bge HX=_;rw[di _ h];change Aip=_;rw[AF Bjf];let s:=b7 h;rw[VG,m,d1,Aqe,s,e,et nm R.new e JZ];rw[Tc,B,I,Crk d1 e (oy x1 e JZ)];rw[Tc,N,A,Crk I e (oy y1 e (ew _))];rw[Ws];rw[m];change Ayx Clf=_;rw[B];change Ayx Clf=_;rw[N];change Bxj Aip=_;rw[AF (by intro M;rw[Te,j,C,e,saq.mp M];show G j C Bii)];show Ckh 0 A
 |crank p v=>
  rw[Wj,c,n,v1,v9,c0];let h:Dn=FN++EH (L_ f++EH (Aqo++EH (MQ v++(10::r)))):=by rw[h];unfold uW;rw[TD];rw[ar,ar,ar,ey,W p c];rfl
  let d:Cp=Ae 99:=by let:=Aty h 0;rw[VO]
  rw[d];change Bge FN=_;rw[di _ h];change Aip=_;rw[AF Bjf];let s:=b7 h;rw[VG,m,d1,Aqe,s,e,et nm R.new e JZ];rw[VG,B,I,Bar,d1,e,dM V c e JZ];rw[Tc,N,A,Cgm I e (jP v1 v9 e (ew _))];rw[Ws];rw[m];change Bgi=_;rw[B];change Bxj Aip=_;rw[AF (by rw[jE u o c,n];decide),N];show Ckh 0 A
 |dyad p a q b=>
  rw[Wz,c,z,w,X,a9,b1,b9,T];let h:Dn=GB++EH (L_ f++EH (Aqo++EH (MQ a++EH (Po q++EH (MQ b++(10::r)))))):=by rw[h];unfold uW;rw[TD];rw[ar,ar,ar,ar,ar,ey,W p c,W q z];rfl
  let d:Cp=Ae Cc:=by let:=Aty h 0;rw[VO]
  rw[d];change Bge GB=_;rw[di _ h];change Aip=_;rw[AF [Chd,LINES,DYADS]];let s:=b7 h;rw[VG,m,d1,Aqe,s,e,et nm R.new e JZ];rw[VG,B,I,Bar,d1,e,dM V c e JZ];rw[Tc,N,A,Cgm I e (jP X a9 e JZ)];rw[VG,F,J,Bar,A,e,dM V z e JZ];rw[Tc,Q,Y,Cgm J e (jP b1 b9 e (ew _))];let g:=Bqs p;let P:=Bqs q;rw[Ws];rw[m];change Bgi=_;rw[B];change Ayx [Oe,Bev]=_;rw[N];change Bgi=_;rw[F];change Bxj Aip=_;rw[Azn (w Aww),Chi RANK,Q];show Ckh 0 Y
 |rider p q a b=>
  obtain⟨c,z,w,sh,K,fb⟩:=U;let h:Dn=IL++EH (L_ f++EH (Aqo++EH (Po q++EH (Auq a++EH (Auq b++(10::r)))))):=by rw[h];unfold uW;rw[TD];rw[ar,ar,ar,ar,ar,ey,W p c,W q z];rfl
  let d:Cp=Ae NY:=by let:=Aty h 0;rw[VO]
  rw[d];change Bge IL=_;rw[di _ h];change Aip=_;rw[AF [Chd,LINES,DYADS]];let s:=b7 h;rw[VG,m,d1,Aqe,s,e,et nm R.new e JZ];rw[VG,B,I,Bar,d1,e,dM V c e JZ];rw[VG,N,A,Bar,I,e,dM V z e JZ];rw[Tc,F,J,Dcn A (acn K e JZ (h32 _))];rw[Tc,Q,Y,Dcn J (acn fb e (ew _) (bC _))];rw[Ws];rw[m];change Bgi=_;rw[B];change Bgi=_;rw[N];change Bxj Aip=_;rw[Aje (by
   rw[nQ u o c z w,sh];rintro(e|e);·show w Aww
   ·rw[Tr]),F];change Ayx [Bok,Bev]=_;rw[Q];show Ckh 0 Y
def oz(L:Linkage)(i:Item):0<Cjb i:=Cuy eo
def oA(h:u<Ah):nameOf (l++r) u=Po u:=Ddd
theorem VL.prefix(V:VL (l++r)):Dy:=by intro k i h;let:=V k i Ag;grind
theorem VL.at{r:Linkage}(V:VL (l++i::r)):yB l i:=Akv (V Ah i AN)
def acq:Dag (Abt r->VL (l++r)->0<Ix (l++r)->Dn=Bqt (Avv (l++r))->Ic<=a->Bjo l CD=EG (l++r))
|[],_,_,_,_,h,_,_,_,_=>JA Ab h
|i::r,l,a,k,t,_,V,L,I,R=>by
 rw[Us,a,rfl,f,a=f+1,a-1,Aq];rw[Vi,acp V.prefix V.at (λu F=>oA F) I];let A:l++i::r=Dt++r:=AY
 change(Dab _ (Agb) [Avo,Bvq,Lk.lines _ _ _,[Bo,Ix _=0,Gy _,EG _]])=_;rw[G];rw[TD];let y:(Bev).text=Bqt _:=z;rw[y];cases w:r with
 |nil=>grind
 |cons j B=>
  rw[<-w];rw[Tq,N,Abt r]
  let T:Abt [Bqt,(Avv (l++i::r))]:=by grind[oz]
  rw[Av T,acq r _ _ _ N (by rw[<-A];show V) (by rw[<-A];show L) (by rw[<-A];show z) [Chu,sT,R],<-A]
def acr(L:Linkage):∀r:Arf,Ic<=An [Bqt,(Avv L)]|[]=>AY|i::r=>by let:=acr L r;grind[oz]
def ama(V:Dy)(L:0<Dx):Lk.read (Lg)=EG l:=by
 rw[UF,w,l,[],e,by rw[e]at L;show JA L Dc]
 let:=acr l l;show acq l _ _ 0 w V L Em [Cgx,Ah<=Dfy _+1]
def acs:∀d,d<10->DQ (Nat.digitChar d)=48+d:=DC
def amb(h:n<10):JV=[48+n]:=[Cna,digits,Nat.toDigits_of_lt_base h,tz,yY,acs n h]
def jR(h:10<=n):JV=MQ (n/10)++[48+n%10]:=by unfold digits;rw[Nat.toDigits_of_base_le Ac h,xI,tz,yY,acs _ (sdH _ Ac)]
def act(h:d<10):Awj (48+d)=Aa:=by unfold isDigit;rw[Db,Db];rfl
def oB(n:Nat):Gv (JV) Awb=Aa/\Abt JV/\(CV n->Bvr JV≠Ae 48):=by
 induction n using Nat.strongRecOn with
 |ind n d=>
  rw[Tv,n<10];·rw[amb h];rw[Tp,Agj xz (act h),AY,AV H e];simp at e;omega
  ·rw[Te,G,z,F,d (n/10) Ac];rw[jR Ac];show Mg AY [AV,H,e];·rw[sh7,G,xz,act (sdH _ Ac)];rfl
   ·cases O:MQ (n/10)with|nil=>show z O|cons c l=>rw[O]at e F;show F Ac e
def amc(h:BI<=n):4<=An JV:=by rw[Tx,Z,∀n,1<=An JV,n,sh2.mpr (oB n).2.1];rw[jR Ac,jR (n:=n/10) Ac,jR (n:=n/10/10) Ac];let:=Z (n/10/10/10);rw[UC,su,s0];omega
def acu{r:Ak}(f:BI<=n)(h:Dn=JV++r)(w:Aff):Bnh=Gy (k+3):=by
 rw[Te,G,y,N,oB n];let L:=amc f;let j:GS=JV:=by unfold scv;rw[h];show jN _ _ G w
 rw[gZ,j];cases O:JV with|nil=>rw[T',O,y]|cons c l=>rw[O]at N L;rw[TD];rw[Azn (N Ac (DY e)),Nj]
def acv{r:Ak}(B:BI<=GD)(h:Dn=Asr++r)(w:Aff):∃e,Bni=KI:=by
 rw[Tu,wholeText];rw[Yr];rw[bb,aV,bb];rw[Te,G,y,N,oB GD];rw[Td,f,z<0]
 ·rw[Vq,f];rw[TM,Dn=45::(MQ GD++r)];let d:Cp=Ae 45:=by let:=Brm [45] h 0;rw[VO]
  rw[Av d];split;·rw[TY,_]
  ·rw[acu B (b8 h) w];rw[TY,_]
 ·rw[UY,f];rw[TM,Dn=MQ GD++r];let n:¬Cp=Ae 45:=by
   cases O:MQ GD with
   |nil=>rw[T',O,y]
   |cons c l=>
    rw[O]at G h;rw[Vp,G];let d:Cp=AW:=by let:=Brm (c::l) h 0;rw[VO]
    rw[d];intro e;injection e with e;rw[Uo];rw[T',G.1,Dc]
  rw[AF n,acu B h w];rw[TY,_]
def acw{r:Ak}(B:¬Bxb)(h:Dn=Asr++r)(w:Aff):∃e,Cce CD=KI:=Cb n_ (acv Ac h w)
def oC{r:Ak}(f:¬(1<=n/\Dm n))(h:Dn=JV++r)(w:Aff):∃e,length_ CD=KI:=by
 unfold length_;rw[Td,H,n=0];·rw[g7 (z:=LD) Ac (by rw[jO];show h) w];rw[TD];rw[Av (AK Ac)];rw[TY,_]
 ·rw[Tc,e,Y,acv (z:=LD) Ac (by rw[jO];show h) w];rw[Y];rw[TY,_]
def slw(l:Linkage):Cbp|.pin x y=>Bjv [Fu,j] Aem|.crank p _=>p<Ah/\Ayq p=Aa/\Dx=0|.dyad p _ q _=>p<Ah/\q<Ah/\p≠q|.rider p q u v=>p<Ah/\q<Ah/\p≠q/\Pi l q=Aa/\xi u/\xi v
structure sd5(l:Linkage)(i:Item):Al where
 nm:xR MU
 new:Bjv Awz MU
 ln:slw l DM
def sd6:Cbp|.pin x y=>Aiw x/\Aiw y|.crank _ r=>1<=r/\Dm r|.dyad _ a _ b=>(1<=a/\Dm a)/\(1<=b/\Dm b)|.rider _ _ _ _=>True
def oD(s:sd5 l i):yB l i↔sd6 DM/\Ah<24/\(Bep=Aa->Dh<=2):=by
 obtain⟨⟨N,J,K⟩,G,B⟩:=s;rw[TH]
 ·intro R;rw[WK];show⟨?_,R.room,?_⟩;·cases h:i.line with|pin x y=>rw[Up,h];rw[Th,U.1,U.2.1]|crank p r=>rw[Up,h];rw[Th,U.2.2.1,U.2.2.2.1]|dyad p a q b=>rw[Up,h];rw[Wz,_,_,_,H,L,I,C,_];rw[Tp,Aj H L,I,C]|rider p q u v=>trivial
  ·cases h:i.line with|dyad p a q b=>rw[Up,h];rw[Wz,_,_,_,_,_,_,_,Z];grind|pin x y=>intro e;rw[Tr]|crank p r=>intro e;rw[Tr]|rider p q u v=>intro e;rw[Tr]
 ·rintro⟨A,X,T⟩;show⟨N,J,K,G,X,?_⟩;cases h:i.line with|pin x y=>rw[h]at A B;rw[Tp,A.1,A.2,B]|crank p r=>rw[h]at A B;rw[TU,Hh,(Gs).1,A.1,A.2,(Gs).2]|dyad p a q b=>rw[h]at A B T;show DB Hh (Gs).1 (Gs).2 A.1.1 A.1.2 A.2.1 A.2.2 (T Ab)|rider p q u v=>rw[h]at B;show B
def fT{f:J->Rest->Got d}:Got.next (App a r) f=f a r:=rfl
def amd(V:Dy)(C:sd5 l i)(j:¬yB l i)(W:∀u,u<Ah->Cmd u=Po u){r:Ak}(h:Dn=Cxn i++r):∃e,Ave CD=KI:=by
 rw[oD C]at j;rw[eo,uk]at h;let Z:=C.nm;let G:=C.new;let U:=C.ln;let u:=V.uses;let o:=V.g4;rw[VT,f];rw[XB];rw[bb];cases H with
 |pin x y=>
  let h:Dn=HX++EH (L_ f++EH (Aks x++EH (Aks y++(10::r)))):=by rw[h];unfold uW;rw[ar,ar,ar,ey];rfl
  let d:Cp=Ae 112:=by let:=Aty h 0;grind
  rw[d];change∃e,Bge HX=(Agb:SV);rw[di _ h];rw[Vm,fT];rw[Td,X,Ah<24]
  ·rw[AF (by grind[LINES])];let s:=b7 h;rw[VG,m,K,Aqe,s,e,et Z G e JZ];rw[Ws];rw[m];change∃e,Ayx Clf=(Agb:SV);rw[Td,R,Aiw x];·rw[Tc,B,I,Crk K e (oy R e JZ)];rw[B];change∃e,Ayx Clf=(Agb:SV);rw[Tx,Q,¬Aiw y,Q,j [Am,Aj R Q,X,E_ Bzp]];rw[Tc,e,Y,acw Q (b8 I) (ew _)];rw[fS I,Y];rw[TY,e]
   ·rw[Tc,e,Y,acw R (b8 K) JZ];rw[fS K,Y];rw[TY,e]
  ·rw[Av (AK Bjf)];rw[TY,_]
 |crank p v=>
  rw[VD,c,n,c0];let h:Dn=FN++EH (L_ f++EH (Aqo++EH (MQ v++(10::r)))):=by rw[h];unfold uW;rw[ar,ar,ar,ey,W p c];rfl
  let d:Cp=Ae 99:=by let:=Aty h 0;rw[VO]
  rw[d];change∃e,Bge FN=(Agb:SV);rw[di _ h];rw[Vm,fT];rw[Td,X,Ah<24];·rw[AF Bjf];let s:=b7 h;rw[VG,m,K,Aqe,s,e,et Z G e JZ];rw[VG,B,I,Bar,K,e,dM V c e JZ];rw[Tx,O,¬(1<=v/\Dm v),O,j [Am,O,X,E_ Bzp]];rw[Tc,e,Y,oC O (b8 I) (ew _)];rw[Ws];rw[m];change∃e,Bgi=(Agb:SV);rw[B];rw[Vm,fT];rw[AF (by rw[jE u o c,n];decide),fS I,Y];rw[TY,e]
  ·rw[Av (AK Bjf)];rw[TY,_]
 |dyad p a q b=>
  rw[VD,c,z,w];let h:Dn=GB++EH (L_ f++EH (Aqo++EH (MQ a++EH (Po q++EH (MQ b++(10::r)))))):=by rw[h];unfold uW;rw[ar,ar,ar,ar,ar,ey,W p c,W q z];rfl
  let d:Cp=Ae Cc:=by let:=Aty h 0;rw[VO]
  rw[d];change∃e,Bge GB=(Agb:SV);rw[di _ h];rw[Vm,fT];rw[Td,X,Ah<24/\Dh<=2]
  ·obtain⟨X,dy⟩:=X;rw[AF [Chd,LINES,DYADS]];let s:=b7 h;rw[VG,m,K,Aqe,s,e,et Z G e JZ];rw[VG,B,I,Bar,K,e,dM V c e JZ];rw[Ws];rw[m];change∃e,Bgi=(Agb:SV);rw[B];change∃e,Ayx [Oe,Bev]=(Agb:SV);rw[Td,M,1<=a/\Dm a];·rw[Tc,N,A,Cgm I e (jP M.1 M.2 e JZ)];rw[VG,F,J,Bar,A,e,dM V z e JZ];rw[Tx,T,¬(1<=b/\Dm b),T,j [Am,Aj M T,X,Ej dy]];rw[Tc,e,Y,oC T (b8 J) (ew _)];let g:=Bqs p;let P:=Bqs q;rw[N];change∃e,Bgi=(Agb:SV);rw[F];rw[Vm,fT];rw[Azn (w Aww),Chi RANK,fS J,Y];rw[TY,e]
   ·rw[Tc,e,Y,oC M (b8 I) JZ];rw[fS I,Y];rw[TY,e]
  ·let cond:Bfj<=Ah\/(2=1/\0<Dx)\/(True/\Bnp):=by
    rw[Td,l0,Ah<24];·rw[Uv,Kq vH (by unfold DYADS;omega)]
    ·rw[TB,Bjf]
   rw[Av cond];rw[TY,_]
 |rider p q a b=>
  let h:Dn=IL++EH (Amn [L_ f,Cmd p,Cmd q,Auq a,Auq b]++(10::r)):=by rw[h];unfold uW;rw[TD];rw[ar];rfl
  let d:Cp=Ae NY:=by let:=Aty h 0;rw[VO]
  rw[d];change∃e,Bge IL=(Agb:SV);rw[di _ h];rw[Vm,fT];rw[Tx,X,¬Ah<24,X,j [Am,vH,X,E_ Bzp]];rw[Av (AK Bjf)];rw[TY,_]
def SL(l:Linkage):Al:=Cku (CS=Ju->sd5 NE i)
theorem SL.at{r:Linkage}(V:SL (l++i::r)):sd5 l i:=Akv (V Ah i AN)
def acx:Dag (Dy->SL (l++r)->(¬VL (l++r)\/Ix (l++r)=0)->Dn=Bqt (Avv (l++r))->∃e,Bjo l CD=KI)
|_,_,0,_,_,_,_,_,_=>SE
|[],l,a+1,k,t,V,S,T,I=>by change∃e,(Cof l CD (Agb) [Avo,Bvq,Bjo Dt q,[Bo,Ix Dt=0,Gy CF,EG Dt]])=KI;rw[We,ab4]
|i::r,l,a+1,k,t,V,S,T,I=>by
 change∃e,(Cof l CD (Agb) [Avo,Bvq,Bjo Dt q,[Bo,Ix Dt=0,Gy CF,EG Dt]])=KI;rw[Td,R,yB l i]
 ·rw[Vi,acp V R (λu F=>oA F) I];rw[G];rw[TD];let m:=V.snoc R;split;·show acx r _ _ _ m Ag Ag Ag
  ·rw[TF,O];let y:(Bev).text=Bqt _:=z;let b:r=[]:=by cases w:r with|nil=>rfl|cons j A=>exfalso;apply O;grind[oz]
   simp_all
 ·rw[Tc,e,Y,amd V S.at R (λu F=>oA F) I];rw[Y];rw[TY,e]
def acy(S:SL l)(h:¬Dy\/Dx=0):∃e,Lk.read (Lg)=KI:=acx l _ _ 0 VL.nil S h Ab
def ame(m n:Nat)(o:sd)(z:Int):Cg (n+1) 9 [Aeq]=JM (Bn 1 z&&Bn z GV):=by rw[rQ,Ap];rw[XT,seS];cases Bn 1 z<;>rw[UM,vG]
def cu(m n:Nat)(o:sd)(z:Nat):Cg (n+1) 9 [AT z]=JM (DD z):=by grind[ame,isLength,FAR,decide_eq_false]
def acz(m n:Nat)(o:sd)(z:Int):Cg (n+1) 10 [Aeq]=JM (Bn GD GV):=by
 rw[Tq,e,Bn ([Gz,z<0,-z,z]) GV=Bn GD GV]
 rw[ahJ,Ap];rw[UK,sgY,e]
def sbe:Cbs|.pin x y=>Axa x GV&&Axa y GV|.crank _ r=>MG|.dyad _ a _ b=>ME&&GY|.rider _ _ _ _=>true
def cx(n:Nat):DD n=Aa↔1<=n/\Dm n:=by grind[isLength,FAR]
def oE(l:Line):sbe l=Aa↔sd6 l:=by cases l with|pin x y=>simp_all[sbe,sd6]|crank p r=>show cx r|dyad p a q b=>simp_all[sbe,sd6,cx]|rider p q u v=>grind[sbe,sd6]
def amf:vv o .all [CW [Ff a]]=JM a:=by let:((Hi).map D.bl)=[Ff a]:=rfl;grind[aax]
def amg(m n:Nat)(o:sd)(i:Item):Cg (n+2) 11 [Gi]=JM (Axb):=by
 rw[VT,N];rw[ahK,Ap];cases H with
 |rider p q u v=>rw[WV,sbW,sw,aI,ed];rfl
 |pin x y=>
  let V:=acz m n o x;let Q:=acz m n o y;let L:=aA (cl:=Bb (n+1)) (it:=Et Aom) (i:=1) (j:=99) (b:=Adt 10) (ρ:=[Hq [QI,N,x,y],Ad]) (st:=o) (s:=Et [PK,x,y]) (items:=[Ahp x,Ahp y]) (Abz [Ed,Bn GD GV]) Em (Bix [AZ x,AZ y]) (by
   rw[U'];rw[Tq,Y,p=Ahp x\/p=Ahp y]
   rw[XX];·rw[TY,Ala V]
   ·rw[TY,Ala Q]);rw[Ti,g,[Agt [JS,x],Ahp y].map (Cnf [Ql,Bn GD GV])=[Ed [Axa,x,GV],Ed [Axa,y,GV]]];rw[TC,sw,L];simp only[sbW,sw,↓L,csAll,aI,d6,c9,nL];rfl
 |crank p r=>
  let V:=cu m n o r;let L:=aA (cl:=Bb (n+1)) (it:=Et Aom) (i:=1) (j:=99) (b:=Adt 9) (ρ:=[Ceo N r,Ad]) (st:=o) (s:=Et [BH,[RA]]) (items:=[DA RA]) (Abz [Ed,Ckx]) Em (Bix [RA]) (by
   rw[U'];rw[Tq,Y,p=DA RA]
   subst Y;rw[TY,Byj V]);rw[Ti,g,[Cnd r].map (Cnf [Ql,Ckx])=[Ed MG]];rw[TC,sw,L];simp only[sbW,sw,↓L,csAll,aI,d7,da,amf];rfl
 |dyad p a q b=>
  let V:=cu m n o a;let Q:=cu m n o b;let L:=aA (cl:=Bb (n+1)) (it:=Et Aom) (i:=1) (j:=99) (b:=Adt 9) (ρ:=[Cen N q,Ad]) (st:=o) (s:=Et [QV,a,En]) (items:=[DA Azp,DA En]) (Abz [Ed,Ckx]) [Cbn,sw,bp] (Bix [Azp,En]) (by
   rw[U'];let Y:p=DA Azp\/p=DA En:=by rw[XG]
   rw[XX];·rw[TY,Byj V]
   ·rw[TY,Byj Q]);rw[Ti,g,[Cnd a,DA En].map (Cnf [Ql,Ckx])=[Ed ME,Ed GY]];rw[TC,sw,L];simp only[sbW,sw,↓L,csAll,aI,d8,dc,nL];rfl
def t9(l:Linkage):Bh:=Bn Ah 24&&Bn Dh 3&&Cuu Axb
def fU(S:SL l):Dy↔t9 l=Aa:=by
 rw[t9,si,si,sa4,sa4,tZ];rw[TH];·intro V;rw[Te,_,d,n,Bgm];rw[Th,LO n,AV i H];rw[Te,k,Z,R,Byw];show Hg (oE _) ((oD (S k i Z)).mp R).1
 ·rintro⟨⟨n,d⟩,f⟩k i H;let o:=(Dj H).1;let T:=abZ H;show Hg (oD (S k i H)) [Am,(oE _).mp Ag,AE,FC j];let A:=nv l (k+1);rw[nr H,ef]at A;grind[xg]
def jS(m n:Nat)(o:sd)(l:Linkage):Cg (n+3) 13 [CL]=Bo (t9 l=Aa) Ceq [Alx,-3]:=by
 let X:=abw m (n+1) o l GB;rw[nG]at X;let H:=(Cpu).len;rw[Tq,g,Gp (Axq>24)=! Bn Ah 24]
 rw[Tq,v,Gp (Au Dh>3)=! Bn Dh 3]
 let L:Io (Bb (n+2)) [Lz,Bf,1,Cmq] [BL,Ad] o=Mn [Cee,Bdd i Axb]:=by
  let C:∀i,Io (Bb (n+2)) Cmq [BL,Hq i] o=JM (Axb):=by intro i;rw[UM,amg m n o i]
  let L:=aA (cl:=Bb (n+2)) (it:=Aim) (i:=1) (j:=99) (b:=Cmq) (ρ:=[BL,Ad]) (st:=o) (s:=Et CL) (items:=Axe Ht x x) (λp=>@dite D (∃i∈l,Ax=Gi) (Ban) (GG [Ed,sbe [Fu,(Bim h)]]) (Ej Bt)) Ab Aou (by rw[U'];rw[Ui,y,Q,Y];rw[Ui,i,V,Q];let ex:Bet (Gi=sw a):=Atz i V;rw[Bza];show Anf;grind);rw[L];congr 2;rw[sO,sO,sO];show Avx i V;let ex:Bet (Gi=sw a):=Atz i V;change @dite D (Bet (Gi=sw a)) (Ban) (GG [Ed,sbe [Fu,(Bim h)]]) (Ej Bt)=Ed Axb;rw[Bza];rw[Vi,Cvl];let W:=C (Bim ex);let N:=C i;rw[<-z,N]at W;show Om (Cjh W).1
 let c:Gv (Bdd i Axb) id=Cuu Axb:=DY seE
 let A:Bfp CL=Ceq:=aS;unfold t9;rw[ahM,Ap];rw[Va,Bmh]
 ·rw[Ud,Bty,g];rw[UG,Dh<=3];·rw[Ud,Bvy,v];cases T:Cuu Axb with|true=>rw[T]at c;simp only[sbX,↓L,csAll,H,g,X,v,c,A]|false=>rw[T]at c;simp only[sbX,↓L,csAll,H,g,X,v,c,sL,sC]
  ·rw[Ud,Bvz,v];simp only[sbX,↓L,csAll,H,g,X,v,sL,sC];try rfl
 ·rw[Ud,B_ G,g];simp only[sbX,↓L,csAll,H,g,sL,sC];try rfl
def acA(S:SL l)(L:0<Dx)(s:LkF.State)(B:JP):Alm s l B=Bem (t9 l=Aa) (II,Aj [Cn,Ah] B) (s,Oj (-3)):=by
 unfold LkF.made;rw[Tv,t9 l=Aa];·simp_all[ama,fU]
 ·grind[acy,fU]
def oF(F:IH->D)(H:vg st d l)(t:Bmk=Ce Axs)(h:Amt (Ceu b (Cpz (Bxu (Hq x)) [Ae,Bt])=Ce (F x)/\GL (F x)=Aa)):CB (.comp it i j b)=Me (Ci F):=by let L:=aA (cl:=cl) (it:=it) (i:=i) (j:=j) (b:=b) (ρ:=ρ) (st:=st) (s:=Axs) (items:=Axe Ht x x) (λp=>@dite D (∃i∈l,Ax=Gi) (Ban) (GG (F (Bim h))) (Ej Bt)) t (dA H.sq) (by rw[U'];rw[Ui,y,Q,Y];rw[Ui,x,O,Q];let ex:Bet (sw x=sw a):=Atz x O;rw[Bza];rw[Vi,Cvl];let:=h (Bim ex) G;rw[Xm,z];rw[TQ]);rw[L];congr 2;rw[sO,sO];show Avx x O;let ex:Bet (sw x=sw a):=Atz x O;change @dite D (Bet (sw x=sw a)) (Ban) (GG (F (Bim h))) (Ej Bt)=F x;rw[Bza];rw[Vi,Cvl];let W:=(h (Bim ex) G).1;let N:=(h x O).1;rw[<-z,N]at W;show Om (Cjh W).1
def tf(f:Bm->Bm->Bm×Bm)(s:Nat)(i:Item):IH:={i with line:=Line.moved f s DM}
def oG(g:IH->IH)(l:Linkage):D.lst (Bdd i (sw (g i)))=uu (Ci g):=by unfold uu;rw[sO];rfl
def oH(m n:Nat)(o:sd)(G:t4 a=Aa)(z:t4 b=Aa)(F:t4 c=Aa)(H:t4 e=Aa):Fa 1 0 [Jw,[a,b,c,d]] e=BN [Jw,[a,b,c,e]]:=by rw[ahB,Ap];rw[Vj,sgT,aI,akZ,dJ,G,z,F,H]
def amh(m n:Nat)(o:sd)(i:Item)(Y T:Int):Cg (n+2) 57 [Gi,AZ Y,AZ T]=BN (sw (tf (Go (u+Y,v+T)) 1 i)):=by
 rw[VT,N];rw[aih,Ap];cases H with
 |pin x y=>let h:=oH m n o (a:=Rh) (b:=Aoj) (c:=Bwo) (d:=PK x y) (e:=PK (x+Y) (y+T)) Ab Ab Ab Ab;simp only[sb1,sw,csAll,aI,bp,c9,bZ,b_,h];rfl
 |crank p r=>
  let e:tf (Go (u+Y,v+T)) 1 [Afp,N,r]=Afp N r:=by rw[Ym,tf];simp
  rw[e];rw[WV,sb1,sw,aI,da]
 |dyad p a q b=>
  let e:tf (Go (u+Y,v+T)) 1 [Qw,N,q]=Qw N q:=by rw[Ym,tf];simp
  rw[e];rw[WV,sb1,sw,aI,dc]
 |rider p q u v=>rw[Ti,e,tf (Go (u+Y,v+T)) 1 [JF,N,p,q,u,v]=JF N p q u v];rw[e];rw[WV,sb1,sw,aI,d9]
def ami(m n:Nat)(o:sd)(i:Item):Cg (n+2) 58 [Gi]=BN (sw (tf (Go (-v,u)) 1 i)):=by
 rw[VT,N];rw[aii,Ap];cases H with
 |pin x y=>let h:=oH m n o (a:=Rh) (b:=Aoj) (c:=Bwo) (d:=PK x y) (e:=PK (-y) x) Ab Ab Ab Ab;simp only[sb2,sw,csAll,aI,bp,c9,bZ,b_,h];rfl
 |crank p r=>
  let e:tf (Go (-v,u)) 1 [Afp,N,r]=Afp N r:=by rw[Ym,tf];simp
  rw[e];rw[WV,sb2,sw,aI,da]
 |dyad p a q b=>
  let e:tf (Go (-v,u)) 1 [Qw,N,q]=Qw N q:=by rw[Ym,tf];simp
  rw[e];rw[WV,sb2,sw,aI,dc]
 |rider p q u v=>rw[Ti,e,tf (Go (-v,u)) 1 [JF,N,p,q,u,v]=JF N p q u v];rw[e];rw[WV,sb2,sw,aI,d9]
section
variable{f:Int->Int->Int×Int}{s:Nat}{l:Linkage}
def jT(k:Nat):(Ci (Abv f))[k]?=Bp CS (Abv f):=tD
def jU(k:Nat):uA (Ci (Abv f)) k=Abo:=by unfold uA;rw[jT];cases CS with|none=>rfl|some i=>rw[VT,N];cases H<;>rfl
def amj(k:Nat):uV (Ci (Abv f)) k=Apk:=by unfold uV;rw[jT];cases CS with|none=>rfl|some i=>rw[VT,N];cases H with|rider p q u v=>change(uA (Ci (Abv f)) p&&uA (Ci (Abv f)) q)=(Aav&&Aet);rw[jU,jU]|_=>rfl
def acB(k e:Nat):sZ (Ci (Abv f)) k e=sZ l k e:=by unfold sZ;rw[jT];cases CS with|none=>rfl|some i=>rw[VT,N];cases H<;>rfl
def amk(p q:Nat):Pi (Ci (Abv f)) q=Pi l q:=Cna wD jU jU acB acB
def jV:Ix (Ci (Abv f))=Dx:=by unfold cranks;rw[List.filter_map,sr];congr 1;show Cmv i _;rw[VT,N];cases H<;>rfl
def oI(V:Dy)(c:∀x y M T,f x y=f M T->x=M/\y=T):SL (Ci (Abv f)):=by
 intro k i K;rw[jT]at K;rw[VA,j,C,K];let R:=V k j C;rw[<-sa8];show Pz [Am,R.a,R.z,R.n];·intro x O;rw[Ui,y,Q,O];show R.new y Q
 ·rw[WK];obtain⟨n,H⟩:=j;cases H with
  |pin x y=>intro z B;rw[Ui,w,Y,B];obtain⟨h,J⟩:=w;cases J with|pin M T=>intro e;let e:Bsd (f M T).1 (f M T).2=Bsd (f x y).1 (f x y).2:=e;rw[Xb];rw[WA,c M T x y (wN W N)];show U.2.2 _ Y Ab|crank p r=>intro e;rw[Tr]|dyad p a q b=>intro e;rw[Tr]|rider p q u v=>intro e;rw[Tr]
  |crank p r=>rw[Wj,G,A,_,_,L];rw[Tp,Cvs,Cso amj,by rw[jV];show L]
  |dyad p a q b=>obtain⟨G,A,F,_⟩:=U;rw[Tp,Cvs,Cso sr,F]
  |rider p q u v=>obtain⟨G,A,F,P,L,I⟩:=U;show[Ds,Cvs,Cso sr,F,by rw[amk];show P,L,I]
end
def g8(a:Int):Gp (([Gz,a<0,-a,a])>2000)=! Bnr Aau:=Aq
def aml(m n:Nat)(o:sd)(l:Linkage)(Y T:Int):Cg (n+4) 60 [CL,AZ Y,AZ T]=Iz ((Bnr [AX,Y]&&Bnr [AX,T])=Af) Cay [Bo,t9 (Ci (tf (Go (u+Y,v+T)) 1))=Aa,Bgo (Ci (tf (Go (u+Y,v+T)) 1)),Alx (-3)]:=by
 let L:=oF (cl:=Bb (n+3)) (it:=Aim) (i:=3) (j:=99) (b:=FW 57 BJ Ago) (ρ:=[BL,Dv Y,Dv T,Ad]) (st:=o) (Aar (sw (tf (Go (u+Y,v+T)) 1 i))) cR Ab (by intro x O;let:=amh m (n+1) o x Y T;rw[Th,Cub,de]);rw[oG]at L;let r:=jS m n o (Ci (tf (Go (u+Y,v+T)) 1));rw[Tx,B,Eu (Bdz _ Arb _=Bgb),k,aS];rw[aik,Ap];rw[Va,Baz [AX,Y]]
 ·rw[UG,Baz [AX,T]]
  ·let X:=g8 Y;let A:=g8 T;rw[Ud,Bty,X];rw[Ud,Bvy,A];rw[Aye];rw[Td,R,t9 (Ci (tf (Go (u+Y,v+T)) 1))=Aa];·rw[TX,R,r];simp only[sb3,↓L,csAll,X,A,r,B]
   ·rw[TR,R,r];simp only[sb3,↓L,csAll,X,A,r]
  ·let X:=g8 Y;let A:=g8 T;rw[Ud,Bty,X];rw[Ud,Bvz,A];rw[Uh,sb3,X,A,sL,sC]
 ·let X:=g8 Y;rw[Ud,B_ G,X];rw[UA,sb3,X,sL,sC];try rfl
def amm(m n:Nat)(o:sd)(l:Linkage):Cg (n+3) 61 [CL]=Bgo (Ci (tf (Go (-v,u)) 1)):=by let L:=oF (cl:=Bb (n+2)) (it:=Aim) (i:=1) (j:=99) (b:=Adt 58) (ρ:=[BL,Ad]) (st:=o) (Aar (sw (tf (Go (-v,u)) 1 i))) cR Ab (by intro x O;let:=ami m n o x;rw[Th,Cub,de]);rw[oG]at L;rw[Tx,A,Eu (Bdz _ Arb _=Bgb),k,aS];rw[ail,Ap];simp only[shq,↓L,csAll,A]
def amn(V:Dy):t9 (Ci (tf (Go (-v,u)) 1))=Aa:=by
 rw[Te,_,d,n,Bgm];rw[t9,si,si,sa4,tZ];rw[Uf,FY Aq]
 ·let e:Qe (Ci (tf (Go (-v,u)) 1))=Dh:=by rw[dyads,List.filter_map,sr];congr 1;show Cmv i _;rw[VT,N];cases H<;>rfl
  grind
 ·intro x O;rw[Ui,i,A,O];rw[Te,k,Z,R,V.item A];rw[WK];rw[VT,N];rw[oE];cases H with|pin x y=>rw[Th,by change Aiw (-y);let:=U.2.1;omega,U.1]|crank p r=>change 1<=1*r/\Dm (1*r);rw[Wj,_,_,F,h,_];omega|dyad p a q b=>change(1<=1*a/\Dm (1*a))/\(1<=1*b/\Dm (1*b));rw[Wz,_,_,_,h,L,I,T,_];omega|rider p q u v=>trivial
def amo(m n:Nat)(o:sd)(f:sfC DM){s:Nat}(P:Dm s):Fa 2 59 Gi Bvu=BN (sw (tf (Go (Au s*u,Au s*v)) s i)):=by
 rw[TW,M,∀z,Adf GD->tj s z=Aa,z,B,Ps 10 20 Ag Ac];rw[VT,N];rw[aij,Ap];let t:∀(w:Afi)(J:D)(j O:Afi),Ate=LF->t4 J=Aa->(∀z∈j,Adf GD)->AQ w IL=Af->O=Axw ((s:Int)*·)->Awq [Ml,(Bb (n+1)),sdt.body,[As [Jw,[Ajg,Aoj,J,HJ [Axw,MY]]],Dv s,Ad],o]=BN [Jw,[Ajg,Aoj,J,HJ (O.map MY)]]:=by
  rintro w J j O U k B A rfl;let L:=aA (cl:=Bb (n+1)) (it:=Et Aom) (i:=2) (j:=99) (b:=Ge AL Df) (ρ:=[As [Jw,[Ajg,Aoj,J,HJ [Axw,MY]]],Dv s,Ad]) (st:=o) (Abz [Ec,s*z]) Em Aou (by rw[U'];rw[Ui,y,Q,Y];rw[Ui,z,V,Q];rw[TY,Ala (M z (B z V))]);let g:Bp [Ana,Axw D.int,x,x] (Abz [JS,(s*z)])=Cnx (j.map ((s:Int)*·)):=AY
  rw[g]at L;rw[Ti,C,vv o Art [CW Cyw]=Fw (.tup ((j.map ((s:Int)*·)).map .int))];let h:=oH m n o (a:=Ajg) (b:=Aoj) (c:=J) (d:=HJ [Axw,MY]) (e:=BH Cyw) Ab Ab k Ab;rw[Xx,sdt,L,A,h]
 cases H with|rider p q u v=>rw[Ti,e,tf (Go (s*u,s*v)) s [JF,N,p,q,u,v]=JF N p q u v];rw[e];rw[VC,sdt,sw,csAll]|pin x y=>show t HX (Bwo) [x,y] [s*x,s*y] Ab Ab (by intro z B;simp at B;rcases B with rfl|rfl;show f.1;show f.2) Em Ab|crank p r=>let:=t FN (BH [AZ p]) [r] [((s*r))] Ab Ab (by intro z B;simp at B;let:Adf r:=f;omega) Em AN;rw[TQ]|dyad p a q b=>let:=t GB (PK p q) [a,b] [((s*a)),((s*b))] Ab Ab (by intro z B;simp at B;rw[WG,G,F];rcases B with rfl|rfl<;>omega) Dc AN;rw[TQ]
def amp(m n:Nat)(o:sd)(V:Dy)(s:Nat):Fa 4 62 CL Bvu=[Amf,DD s=Af,-1,[Bo,t9 (Ci (Abv (Go (Au s*u,Au s*v))))=Aa,Bgo (Ci (Abv (Go (Au s*u,Au s*v)))),Alx (-3)]]:=by
 let T:=cu m (n+2) o s;rw[Tx,A,Eu (Bdz _ Arb _=Bgb),k,aS];rw[aim,Ap];cases U:DD s with
 |false=>rw[U]at T;rw[UA,sdu,T,sL,sC]
 |true=>
  rw[U]at T;rw[Aye];let L:=oF (cl:=Bb (n+3)) (it:=Aim) (i:=2) (j:=99) (b:=FW 59 Bj Nb) (ρ:=[BL,Dv s,Ad]) (st:=o) (Aar (sw (tf (Go (s*u,s*v)) s i))) cR Ab (by intro x O;let:=amo m (n+1) o (V.nums x O) (((cx s).mp U).2);rw[Th,Cub,de]);rw[oG]at L;let r:=jS m n o (Ci (Abv (Go (s*u,s*v))));rw[Td,R,t9 (Ci (Abv (Go (s*u,s*v))))=Aa];·rw[TX,R,r];simp only[sdu,↓L,csAll,T,r,A]
  ·rw[TR,R,r];rw[Xx,sdu,L,T,r]
def oJ(m n:Nat)(o:sd)(k:Nat):Cg (n+1) 8 [LM]=JM (Bl k 26):=by
 rw[Tq,e,Bn Ey 25=Bl k 26]
 rw[ahI,Ap];rw[UK,sgX,e]
def amq(m n:Nat)(K:BI<m)(o:sd)(N:Int)(b:Nat):Fa 2 63 [AZ,N] En=JM (Aqv b):=by
 let X:=abt N;rw[Tq,c1,Bn (1) Cj=Bn 1 b]
 rw[Tq,P,Bn Cj 20=Bn b 20]
 rw[ain,Ap];unfold factor;rw[Va,AX N<=99]
 ·rw[Ud,Bty,X];rw[UG,1<=b]
  ·rw[Ud,Bvy,c1];rw[Td,F,b<=20]
   ·rw[Ud,Bx F,P];let a:=nY m n o N b Ac;rw[Tq,M,AQ [Ay,N_ N b] 1=(N_ N b==1)]
    rw[Ti,g,(! Pg N)=(N !=0)];rw[Ti,W,(! AQ N Cj)=!(N==Cj)];rw[Uy,sb4,X,c1,P,a,M,g];cases(N_ N b==1)<;>cases(N !=0)<;>cases(!(N==Cj))<;>rw[Wx]
   ·rw[Ud,B_ F,P];rw[Uh,sb4,X,c1,P,vG]
  ·rw[Ud,Bvz,c1];rw[UA,sb4,X,c1,vG]
 ·rw[Ud,B_ G,X];rw[UA,sb4,X,vG,shZ]
def acC(m n:Nat)(s:sd)(l:Linkage)(o p:Nat):NU (n+2) 64 [CL,AT o,HB] s=[Bo,Auh\/Aui\/o=p,CM [-4] s,Ew Bt s]:=by
 let c1:=gU m n s l o;let P:=gU m n s l p;rw[aio,Ap];rw[Va,Auh];·rw[Ux,G,c1];rw[Av (Azy)];rw[UK,sb5,c1]
 ·rw[Uz,G,c1];rw[UG,Aui];·rw[Ux,z,P];rw[Av (Bw (AK z))];rw[VQ,sb5,c1,P]
  ·rw[Uz,z,P];rw[Td,F,o=p];·let d:AQ o [Au,p]=Aa:=Db;rw[Av (Bw (Bw F))];rw[UN,sb5,c1,P,d,sL,sC]
   ·rw[UW,d,AQ o [Au,p]=Af];rw[My];rw[UA,sb5,c1,P,d]
def amr(v k:Nat):Bgv [Abn,LM]=Ol k:=by grind[t8]
def acD(m n:Nat)(o:sd)(l:Linkage)(v k:Nat)(Z:k<=Cc):Cg (n+2) 65 [CL,Abn,LM]=[Iz,(SW [Boj,k] Afb)=Aa,Alx (-5),Mn Bvv]:=by
 let G:=aA (cl:=Bb (n+1)) (it:=Buo Bj) (i:=4) (j:=99) (b:=Ced Dg) (ρ:=[BL,Dv v,Dv k,Ad,Ad,Ad]) (st:=o) (s:=Ly (Bro k [Bkk,DA EC])) (items:=Bro k [Bkk,DA EC]) (Abz [Ol,PM]) (by
  rw[Tq,g,(Qk Ey&&Azl Ey)=Aa]
  rw[Wm,sju,g,sP]) ff (by rw[U'];rw[Ui,j,_,Y];show Anf;rw[UM,amr];rfl);let W:Bp [Bro,k,Bkk [Agt,JS j]] (Abz [Ol,PM])=Bvv:=by rw[We,newNames]
 rw[T_,W];rw[Tx,I,∀A:Cbc,Fa 1 2 CL (t8 A)=BN (wB (Sh A)),A,jA cR m n A];let H:=aA (cl:=Bb (n+1)) (it:=MN BJ) (i:=5) (j:=99) (b:=PN .zP [Iw,2,Qm] Alt) (ρ:=[BL,Cd v,J_,Aia Bvv,Ad,Ad]) (st:=o) (s:=MN [DK,Bvv]) (items:=Axe Bvv x x) (λp=>Cyr [Ed,Blb [Aj,DQ (a+65),Bmx]]) Ab Aou (by
  rw[U'];rw[Ui,y,Q,Y];rw[Ui,A,_,Q];show Anf;let B:(! wy (wB (Sh A)))=Blb A:=by unfold taken;rw[abN];cases Sh A<;>rfl
  rw[Vt,I,B];change _=SG (Ql [Blb,Aj [DQ,Au Brf-65+65] [Ahj,A.number]]) o;rw[Of (DQ (Au Brf-65+65)=Brf),sP]);let N:Bp [Ana,Bvv,x,x] (Byt [Cyr,Ql [Blb,Aj [DQ,a+65] Bmx]])=Cee [Cwi,Afb]:=by rw[sO,sO,sO];show Avx A _;change Ql [Blb,Aj [DQ,Au Brf-65+65] [Ahj,A.number]]=Ql [Blb,A];rw[Of (DQ (Au Brf-65+65)=Brf),sP]
 rw[N]at H;let c:SW [Cwi,Afb] id=SW [Boj,k] Afb:=DY sdg
 rw[aip,Ap];cases T:SW [Boj,k] Afb with|true=>rw[T]at c;simp only[seY,↓G,↓H,csAll,c,sL,sC]|false=>rw[T]at c;simp only[seY,↓G,↓H,csAll,c]
def acE(v:Nat):Boj 3=[RH (65+v),Aj (65+v) 1,Aj (65+v) 2]:=rfl
def ams(v:Nat):Boj 4=[RH (65+v),Aj (65+v) 1,Aj (65+v) 2,Aj (65+v) 3]:=rfl
def jW(l k:Linkage):D.lst (Ht++k.map sw)=uu (l++k):=by grind[uu]
def acF(m n:Nat)(s:sd)(T:Bmh)(o p a b v:Nat):NU (n+4) 67 [CL,AT o,HB,Azp,En,Abn] s=[Bo,Iy [OR,ME,GY,RM]=Af,CM [-1] s,[Bo,Auh\/Aui\/o=p,CM [-4] s,[Iz,(Btm 3 Afb)=Aa,CM [-5] s,[Bo,t9 (l++Acj v Ah o p a b)=Aa,Se (uu (l++Acj v Ah o p a b)),CM [-3] s]]]]:=by
 let t:=oJ m (n+2) s v;let d:=cu m (n+2) s a;let e:=cu m (n+2) s b;let u:=acC m (n+1) s l o p;let N:=acD m (n+1) s l v 3 Ac;let H:=(cR (st:=s) (l:=l)).len;rw[Tq,F,Bkd Cj a=RM]
 let f:Iy [OR,ME,GY,RM]=(OR&&(ME&&(GY&&RM))):=by rw[YE]
 let r:=jS m n s (l++Acj v Ah o p a b);let L:sY Bsi 3=Aa:=aP Ag;rw[Ti,M,([Awn [IK,Aev,QV o HB,QV a En],Jw [IK,Aeu,QV o HB,QV a En],Jw [IK,Aew,QV Ah [Ec,Axq+1],CN En En]])=Amd [Acj,v,Ah,o,p,a,b]];rw[Ti,i,Rr s [Aev,Aeu,Aew] 0=Se Aev];rw[Ti,G,Rr s [Aev,Aeu,Aew] 1=Se Aeu];rw[Ti,J,Rr s [Aev,Aeu,Aew] 2=Se Aew];rw[Tx,U,∀q:Cbc,Bud q=Aa,q,Ab];rw[Tx,V,Eu (Bdz Qc Arb s=Se (uu k)),k,aS];let X:∀O:Fs,LF=3->sbP s .add (CL) (CW O)=Se [Dq,Ht++O]:=by intro O Q;unfold uu;rw[mw,Q,L];rfl
 rw[Ti,K,Gv (Amd [Acj,v,Ah,o,p,a,b]) t4=Aa];rw[f,air,Ap];rw[Td,w,(OR&&(ME&&(GY&&RM)))=Aa]
 ·rw[w,Bmy];rw[si,si,si]at w;obtain⟨g,P,W,Z⟩:=w;rw[g]at t;rw[P]at d;rw[TV,W];rw[Z]at F;rw[Td,Y,Auh\/Aui\/o=p];·rw[TX,Y,u];rw[UN,saZ,t,d,e,F,u]
  ·rw[TR,Y,u];rw[Td,I,(Btm 3 Afb)=Aa];·rw[TX,I,N];let h:NU (n+3) 65 [CL,Abn,Bry] s=CM [-5] s:=N;rw[Uy,saZ,t,d,e,F,u,h]
   ·rw[TR,I,N];rw[acE]at N;let h:NU (n+3) 65 [CL,Abn,Bry] s=Se [CW,[Aev,Aeu,Aew]]:=N;rw[Td,R,t9 (l++Acj v Ah o p a b)=Aa];·rw[TX,R,r];simp only[saZ,csAll,t,d,e,F,u,h,H,i,G,J,U,M,K,X _ (Avb [An,Amd [Acj,v,Ah,o,p,a,b]] 3),jW,r,V]
    ·rw[TR,R,r];simp only[saZ,csAll,t,d,e,F,u,h,H,i,G,J,U,M,K,X _ (Avb [An,Amd [Acj,v,Ah,o,p,a,b]] 3),jW,r]
 ·rw[uU]at w;rw[w,JO];rw[TK,OR,A];rw[TK,ME,B];rw[TK,GY,C];rw[TK,RM,c];cases A<;>cases B<;>cases C<;>cases c<;>first|rw[T',w,Dc]|(rw[Uy,saZ,t,d,e,F,sL,sC];try rfl)
theorem SL.snoc(h:SL l)(V:sd5 l i):SL Dt:=by
 intro k j C;rw[Td,Z,k<Ah];·rw[fK Z]at C;rw[sh6 Ac];show h k j C
 ·grind
theorem VL.shape(V:Dy):SL l:=by intro k i H;let R:=V k i H;show HS [Am,R.a,R.z,R.n] R.new;rw[WK];cases h:i.line with|pin x y=>rw[Up,h];show U.2.2|crank p r=>rw[Up,h];rw[Wj,G,z,_,_,L];rw[Tp,G,z,L]|dyad p a q b=>rw[Up,h];obtain⟨G,z,F,_⟩:=U;rw[Tp,G,z,F]|rider p q u v=>rw[Up,h];show U
def acG(l k:Linkage):Ix (l++k)=Dx+Ix k:=Ddc
def ez(h:Blb n=Af):Bjv Awz n:=by grind[taken]
def eA(h:v<26)(Z:k<=99):xR [Aj,65+v,k]:=Am Aq Aq Z
def amt(h:a≠b):(Aj (65+v) a:Cbc)≠Aj (65+v) b:=Ceh Ag
def acH(V:Dy)(U:Nf<26)(Y:¬(Auh\/Aui\/o=p))(I:¬(Cwj Nf 3 Afb)=Aa):SL (l++Acj Nf Ah o p a b)/\Ix (l++Acj Nf Ah o p a b)=Dx:=by
 simp[acE,uU,wQ,List.any_nil,sdW,sfE]at I;obtain⟨d,M,T⟩:=I;let G:=ez M;let y:=ez T;rw[Wl,e,l++Acj Nf Ah o p a b,((l++[Bof [RH,65+Nf] o a p b])++[Bof [Aj,65+Nf,1] o a p b])++[Bof [Aj,65+Nf,2] Ah b (Ah+1) b],uk,uk]
 show Pu [DY,acG];rw[e];show Bli (Bli (Bli Bkp [DL,eA U Ac,(ez d),AE,AE,AE]) [Pz,eA U Ac]) [Pz,eA U Ac];·grind
 ·show Cgq<;>rw[su]<;>omega
 ·grind
 ·show Cgq<;>simp<;>omega
def vQ(e r a b:Nat):Arf:=Bci r++Acj 3 3 0 2 a b
def oK(Y:DD e=Aa)(w:MG=Aa)(M:ME=Aa)(T:GY=Aa):t9 (vQ e r a b)=Aa:=by let A:=(cx e).mp Y;rw[Ti,z,Gv (vQ e r a b) (Aar Axb)=((Axa Ia GV&&Axa Ia GV)&&((Apc&&Apc)&&(MG&&((ME&&GY)&&((ME&&GY)&&((GY&&GY)&&Aa))))))];rw[Ti,Z,An (vQ e r a b)=6];rw[Ti,I,Qe (vQ e r a b)=3];grind[t9]
def acI(m n:Nat)(o:sd)(e r a b:Nat)(Y:DD e=Aa)(w:MG=Aa):Cg (n+5) 89 [Azx,RA,Azp,En]=[Amf,Iy [ME,GY,RM]=Af,-1,Bgo (vQ e r a b)]:=by
 let d:=acF m n o (l:=Bci r) [Cgx,3<=24] 0 2 a b 3;rw[Ti,W,Iy [Bl 3 26,ME,GY,Apc]=Iy [ME,GY,RM]];rw[W]at d;rw[Ti,C,D.lst [Jw [Bfm,CN Pm Pm,BH _,BH _],Jw [Bfm,CN Akl Pm,BH _,BH _],Jw [Bfm,Aql 2 Pm,BH [Akl],BH _]]=uu (Bci r)];rw[Tx,L,Eu (Bdz _ Arb _=Bgb),k,aS];rw[Tv,Iy [ME,GY,RM]=Af];·rw[TX,h,d];let i:y9 _ m _ _ [uu _,Pm,Adg,Agq,Alf,Bry] _=CM _ _:=d;rw[rX,Ap];rw[VQ,se0,C,i]
 ·rw[TR,h,d];rw[Tg,sbf];let F:(ME&&(GY&&(Apc&&Aa)))=Aa:=h;rw[Vo,F];rw[Ti,B,Bci r++Acj 3 [An,Bci r] 0 2 a b=vQ e r a b];rw[B,Av (oK Y w F.1 F.2.1)]at d;let i:y9 _ m _ _ [uu _,Pm,Adg,Agq,Alf,Bry] _=Ew _ _:=d;rw[rX,Ap];rw[UA,se0,C,i,L]
def amu(x y z w:Bool):Iy [x,y,z,w]=(x&&Iy [y,z,w]):=Ch
def amv(x y z w v u:Bool):Iy [x,y,z,w,v,u]=(x&&(y&&(u&&Iy [z,w,v]))):=by cases x<;>cases y<;>cases z<;>cases w<;>cases v<;>cases u<;>rfl
def amw(m n:Nat)(o:sd)(r a b:Nat):Cg (n+6) 90 [RA,Azp,En]=[Amf,Iy [MG,ME,GY,RM]=Af,-1,Bgo (vQ r r a b)]:=by
 let T:=cu m (n+4) o r;rw[Tx,L,Eu (Bdz _ Arb _=Bgb),k,aS];rw[amu,aiN,Ap];cases w:MG with
 |false=>rw[w]at T;rw[UA,sdx,T,sL,sC];try rfl
 |true=>
  rw[w]at T;rw[sac];let f:=acI m n o r r a b w w;rw[Tv,Iy [ME,GY,RM]=Af];·rw[TX,h,f];rw[VQ,sdx,T,f]
  ·rw[TR,h,f];rw[UA,sdx,T,f,L]
def amx(m n:Nat)(o:sd)(e r a b:Nat):Cg (n+6) 91 [Azx,RA,Azp,En]=[Amf,Iy [DD e,MG,ME,GY,RM,e !=r]=Af,-1,Bgo (vQ e r a b)]:=by
 let t:=cu m (n+4) o e;let d:=cu m (n+4) o r;rw[Tx,L,Eu (Bdz _ Arb _=Bgb),k,aS];rw[Tq,U,AQ e Aii=!(e !=r)]
 rw[amv,aiO,Ap];cases Y:DD e with
 |false=>rw[Y]at t;rw[UA,sa1,t,sL,sC];try rfl
 |true=>
  rw[Y]at t;rw[sac];cases w:MG with
  |false=>rw[w]at d;rw[Uh,sa1,t,d,sL,sC];try rfl
  |true=>
   rw[w]at d;rw[sac];cases H:(e !=r)with
   |false=>rw[Up,H];rw[UN,sa1,t,d,U,sL,sC];try rfl
   |true=>
    rw[Up,H];rw[sac];let f:=acI m n o e r a b Y w;rw[Tv,Iy [ME,GY,RM]=Af];·rw[TX,h,f];rw[Uh,sa1,t,d,U,f]
    ·rw[TR,h,f];rw[UN,sa1,t,d,U,f,L]
def amy(Y:DD e=Aa)(w:MG=Aa):VL (Bci r):=by
 let A:=(cx e).mp Y;let m:=(cx r).mp w;rw[Ti,h,Bci r=(([]++[QI Cbu 0 0])++[QI [RH,66] LG 0])++[[Aj,RH 67,.crank 1 r]]];rw[h];show VL.snoc (VL.snoc (VL.snoc VL.nil [DB,DC,DC,DC,AY,DC,DC,DC,AY]) ⟨Bbg (65<=66),Bbg (66<=90),Bbg (0<=99),?_,AY,?_,AY,?_⟩) ⟨Bbg (65<=67),Bbg (67<=90),Bbg (0<=99),?_,AY,AY,Ab,m.1,m.2,Ab⟩;·intro j C;rw[Ul,PC (show j∈[(QI Cbu 0 0:IH)]from C)];change(Cbu:Cbc)≠RH 66;decide
 ·change Aiw (LG);rw[wc];omega
 ·intro j C;rw[Ul,PC (show j∈[(QI Cbu 0 0:IH)]from C)];intro q;injection q with U R;omega
 ·intro j C;let C:j=QI Cbu 0 0\/j=QI [RH,66] LG 0:=by simpa using C
  rcases C with rfl|rfl<;>simp
def acJ(Y:DD e=Aa)(w:MG=Aa):SL (vQ e r a b)/\Ix (vQ e r a b)=1:=by let:=acH (amy Y w) (o:=0) (p:=2) (a:=a) (b:=b) (letter:=3) Ac (by change¬(3<=0\/3<=2\/0=2);omega) [Cth,Avb [Cwj,3,3,(taken (Bci r))] Af];rw[TY,Ccy]
def sjU:Bjk->D|none=>Bt|some l=>CL
def vB(s:LkF.State):uR:=Ll 6 [sjU s]
def amz(h:Ail=Awi s):Akq o 6 (Jv) (FF 0)=As (sjU s):=by grind[wx,vB]
def cU(m n:Nat)(h:Ail=Awi s):Cg (n+1) 98 [Jv]=match s with|none=>Alx (-9)|some l=>Ceq:=by let f:=amz h;rw[Tx,L,Eu (Bdz _ Arb _=Bgb),k,aS];rw[aiV,Ap];cases s with|none=>let f:Kp (wx ..) (FF 0)=Ae Bt:=f;rw[UA,se4,f,sL,sC]|some l=>let f:Kx (wx ..)=BL:=f;rw[Ti,N,wy (CL)=Af];rw[UA,se4,f,N,L]
def cV(m n:Nat)(h:Ail=Awi s)(l:Linkage):Fa 1 99 Jv CL=[Dr,CW [AT Ah],Ahh (Bmu)]:=by
 let A:Mo (LX) (.saU Bf 6 0 AL) [Ape,BL] o=DJ [Ape,BL] (Ahh (Bmu)):=by
  let e:wY o (Jv) 6 0 (CL)=As [Ahh,(Bmu)]:=by unfold wY;rw[TD];rw[h];rfl
  rw[Ti,d,Mo (LX) (.saU Bf 6 0 AL) [CU,BL] _=(match wY o _ 6 0 _ with|some o=>SG (yq.next [Ape,CU]) _|none=>AJ)];grind
 let Q:Awq [Amv,CW [AZ Ah],Ahh (Bmu)]=[Dr,CW [AZ Ah],Ahh (Bmu)]:=by grind[List.length_set,aS]
 rw[aiW,Ap];rw[Xx,shv,A,((cR (st:=Ahh (Bmu)) (l:=l)).len),Q]
def amA{N:Int}{W:Nat}(G:1<=b)(j:W%b=0):Cfm (((RW/NN)-1)*Co W)=AX (N-Cj)*(W/b):=by
 let R:CV NN:=by rw[UH];simp_all
 obtain⟨c,rfl⟩:b∣W:=Nat.dvd_of_mod_eq_zero j;let e:(((N/b)-1)*(Cn (b*c)))=Bke ((N-b)*c):=by
  rw[Wl,f,((Au ((N-b)*c))),(N-b)*Co c,sdC,scj]
  grind
 rw[e,Rat.num_intCast,yu,wc,Nat.mul_div_cancel_left _ Ac]
def oM(z:Int):([Gz,z<0,-z,z])=Ay GD:=Aq
def oN(h:Aqv b=Aa):1<=b/\b<=20/\AX N<=99/\N_ N b=1/\CV N/\N≠Cj:=Cxh factor
def amB(h:Aqv b=Aa):wg (RW/NN)=Aql N En:=by rw[Tk,G,z,F,H,L,oN h];rw[g_ Ac H];rfl
def amC(h:Aqv b=Aa):xi (RW/NN):=by rw[Tk,G,z,F,H,L,oN h];rw[g_ Ac H];rw[Th,Aq,z]
def amD(m n:Nat)(K:BI<m)(st:sd)(T:Bmh)(o p:Nat)(N:Int)(b W y v:Nat):IM (n+4) 66 [CL,AT o,HB,AZ N,En,AT W,AT y,Abn]=[Bo,Iy [OR,DD W,DD y,Aqv b,W%b==0]=Af,Brz [-1],[Bo,Auh\/Aui\/o=p,Brz [-4],[Iz,(Btm 4 Afb)=Aa,Brz [-5],[Bo,t9 (l++Ant v o p (RW/NN) W y)=Aa,Ce (uu (l++Ant v o p (RW/NN) W y)),Brz [-3]]]]]:=by
 let t:=oJ m (n+2) st v;let d:=cu m (n+2) st W;let e:=cu m (n+2) st y;let a:=amq m (n+1) K st N b;let u:=acC m (n+1) st l o p;let nn:=acD m (n+1) st l v 4 Ac;let H:=(cR (st:=st) (l:=l)).len;let ra:Iy [OR,DD W,DD y,Aqv b,W%b==0]=((OR&&(DD W&&DD y))&&(Aqv b&&(W%b==0))):=by rw[YE]
 let r:=jS m n st (l++Ant v o p (RW/NN) W y);let J:sY Bsi 4=Aa:=aP Ag;rw[Tx,H0,Eu (Chk Arb=Ce (uu k)),k,aS];rw[Tx,U,∀q:Cbc,Bud q=Aa,q,Ab];rw[ra,aiq,Ap];rw[Td,w,(OR&&(DD W&&DD y))=Aa]
 ·rw[w,sac];rw[Vo,w];obtain⟨g,P,r3⟩:=w;rw[g]at t;rw[P]at d;rw[TV,r3];cases i:Aqv b with
  |false=>rw[i]at a;rw[Uy,zc,t,d,e,a,sL,sC];try rfl
  |true=>
   rw[i]at a;rw[TZ,G,z,F,h4,L,h6,oN i];let Z:Sf Cj=Aa:=Db;let x:=abL W b;rw[sac];rw[Td,j,W%b=0]
   ·rw[show(W%b==0)=Aa by rw[j];rfl,Bmy];rw[Wl,x,Int.fmod [Au,W] Cj,0,x,j]
    rw[Ti,s,Pg Ia=Aa];rw[Td,Y,Auh\/Aui\/o=p];·rw[TX,Y,u];simp only[zc,csAll,t,d,e,a,Z,x,s,u]
    ·rw[TR,Y,u];rw[Td,I,(Btm 4 Afb)=Aa];·rw[TX,I,nn];let h:IM (n+3) 65 [CL,Abn,AZ 4]=Brz [-5]:=nn;simp only[zc,csAll,t,d,e,a,Z,x,s,u,h]
     ·rw[TR,I,nn];let h:IM (n+3) 65 [CL,Abn,AZ 4]=Me [Aev,Aeu,Aew,Ol 3]:=nn;let fd:=aj0 W b;let V:Dm W:=by rw[TC,isLength,P];rw[Vz,si,uw,P];show P.2
      let f:tj [Ay,AX (N-Cj)] [Ay,W/b]=Aa:=Ps 10 10 NG (by rw[wc];let:=Nat.div_le_self W b;omega);let c:=oM (N-Cj);let fl:Ay [AX,(N-Cj)]*Ay (W/b)=Cn [Cfm,(((RW/NN)-1)*Co W)]:=by rw[amA G j];show Bkn _ _
      let M:([Awn [IK,Aev,QV o HB,QV W [AT,y]],Jw [PZ,Aeu,QV o [AT,Ah],CN [Aql,N,En] Bgp],Jw [IK,Aew,CN HB [Ec,Axq+1],Aql [Cn,Cfm (((RW/NN)-1)*Co W)] [AT,y]],Jw [PZ,Ol 3,PK (Axq+1) (Axq+2),CN [Aql,N,En] Bgp]])=Amd [Ant,v,o,p,(RW/NN),W,y]:=by let rd:=amB i;rw[<-rd];rfl
      rw[Ti,C0,LA (vr [Aev,Aeu,Aew,Ol 3] 0)=Ce Aev];rw[Ti,D0,LA (vr [Aev,Aeu,Aew,Ol 3] 1)=Ce Aeu];rw[Ti,E0,LA (vr [Aev,Aeu,Aew,Ol 3] 2)=Ce Aew];rw[Ti,G0,LA (vr [Aev,Aeu,Aew,Ol 3] 3)=Ce [Ol,3]];let X:∀O:Fs,LF=4->Bdr (CL) (CW O)=Me (Ht++O):=by intro O Q;unfold uu;rw[mw,Q,J];rfl
      rw[Ti,pa,Gv (Amd [Ant,v,o,p,(RW/NN),W,y]) t4=Aa];let l0:=X _ (Avb [An,Amd [Ant,v,o,p,(RW/NN),W,y]] 4);rw[Td,R,t9 (l++Ant v o p (RW/NN) W y)=Aa];·rw[TX,R,r];simp only[zc,csAll,t,d,e,a,Z,x,s,u,h,H,C0,D0,E0,G0,U,c,fd,f,fl,M,pa,l0,jW,r,H0];try rfl
      ·rw[TR,R,r];simp only[zc,csAll,t,d,e,a,Z,x,s,u,h,H,C0,D0,E0,G0,U,c,fd,f,fl,M,pa,l0,jW,r];try rfl
   ·rw[show(W%b==0)=Af by simpa using j,JO];rw[UW,nz,Pg [Ay,W%b]=Af];simp only[zc,csAll,t,d,e,a,Z,x,nz,sL,sC];try rfl
 ·rw[uU]at w;rw[w,vG,JO];rw[TK,OR,A];rw[TK,DD W,B];rw[TK,DD y,C];cases A<;>cases B<;>cases C<;>first|rw[T',w,Dc]|(rw[UN,zc,t,d,e,sL,sC];try rfl)
def amE(V:Dy)(U:Nf<26)(R:factor kn kd=Aa)(Y:¬(Auh\/Aui\/o=p))(I:¬(Cwj Nf 4 Afb)=Aa):SL (l++Ant Nf o p (Co kn/Co kd) len Bvo)/\Ix (l++Ant Nf o p (Co kn/Co kd) len Bvo)=Dx:=by
 rw[ams,uU]at I;simp only[wQ,List.any_nil,sdW,sfE]at I;obtain⟨d,M,T,r⟩:=I;let n:=ez d;let G:=ez M;let y:=ez T;let N:=ez r;let m:=amC R;let F:xi 0:=Aj DC DC;rw[VS,H,Cfm (((Co kn/Co kd)-1)*Co len),f];rw[UO,Z,(Co kn/Co kd),k];let e:l++Ant Nf o p k len Bvo=(((l++[Bof [RH,65+Nf] o len p Bvo])++[JF [Aj,65+Nf,1] o Ah k 0])++[Bof [Aj,65+Nf,2] p f (Ah+1) Bvo])++[JF [Aj,65+Nf,3] (Ah+1) (Ah+2) k 0]:=by rw[uk,uk,uk,<-H];rfl
 show Pu [DY,acG];rw[e];show Bli (Bli (Bli (Bli Bkp [DL,eA U Ac,n,AE,AE,AE]) ⟨eA U Ac,?_,?_,?_,AE,?_,m,F⟩) [Pz,eA U Ac]) ⟨eA U Ac,?_,?_,?_,AE,?_,m,F⟩
 ·intro j C;rw[Wp,C];·show G j h
  ·rw[Bab];show Bwj
 ·rw[su,s0];omega
 ·rw[su,s0];omega
 ·unfold wD sZ;rw[eg];simp
 ·intro j C;rw[Wp,C]
  ·rw[Wp,h];·show y j h
   ·rw[Bab];show Bwj
  ·rw[Bab];show Bwj
 ·show Cgq<;>rw[UC,su,s0]<;>omega
 ·intro j C;rw[Wp,C]
  ·rw[Wp,h]
   ·rw[Wp,h];·show N j h
    ·rw[Bab];show Bwj
   ·rw[Bab];show Bwj
  ·rw[Bab];show Bwj
 ·rw[UC,su,s0];omega
 ·rw[UC,su,s0];omega
 ·unfold wD sZ;rw[show Ah+2=AG ((l++[Bof [RH,65+Nf] o len p Bvo])++[JF [Aj,65+Nf,1] o Ah k 0]:Arf)by rw[UC,su,s0],eg];simp
section
variable{l k:Linkage}(h:l.map (·.line)=k.map (·.line))
include h
def oO(j:Nat):Bp Anh Bon=Bp k[j]? Bon:=by rw[<-tD,<-tD,h]
def eC:Ah=Bco:=Akv [Cfw,h]
def acK(j:Nat):Apz j=uA k j:=by grind[oO,uA,wC]
def amF(j u:Nat):sZ l j u=sZ k j u:=by grind[oO,sZ]
def amG(j:Nat):Ayq j=uV k j:=by let e:=oO h j;unfold uV;rw[(funext (acK h))];grind
def amH(p q:Nat):Pi l q=Pi k q:=by grind[wD,acK,amF]
end
def oP(f:Cbs):∀l k:Arf,Bwt=Ckb->Ciy Bsv=An (k.filter [Aar,Bsv])|[],[],_=>rfl|a::l,b::k,e=>by rw[Xb];let:=oP f l k N;grind
def sh8:Cbs|.crank _ _=>true|_=>false
def auC(i:Item):Ctt=sh8 DM:=Ch
def auD(i:Item):Bpz=Bep:=Ch
def oQ(l:Linkage):Dx=Ciy (sh8 DM):=Ch
def oR(l:Linkage):Dh=Ciy Bep:=Ch
def acL(h:Bwt=Ckb):Dx=Ix k:=Aiz oQ oQ (oP _ l k h)
def amI(h:Bwt=Ckb):Dh=Qe k:=Aiz oR oR (oP _ l k h)
def acM(h:Bwt=Ckb)(t:sh5 l x):sh5 k x:=by
 cases x with
 |pin x y=>
  rw[Tp,t.1,t.2.1,GX j C];let:Fu j∈Bwt:=Aq
  rw[Te,i,V,A,zM.mp this];show t.2.2 i V (A.trans e)
 |crank p r=>obtain⟨G,z,F,H,L⟩:=t;show⟨eC h▸G,amG h p▸z,F,H,acL h▸L⟩
 |dyad p a q b=>obtain⟨G,z,F,H,L,I,T,Z⟩:=t;show⟨eC h▸G,eC h▸z,F,H,L,I,T,amI h▸Z⟩
 |rider p q u v=>obtain⟨G,z,F,H,L⟩:=t;show⟨eC h▸G,eC h▸z,F,amH h p q▸H,L⟩
def jX(l:Linkage)(i:Nat)(N:Lk.Name)(k:Nat):(Ale i N)[k]?=IP CS x [DZ,k=i,Dcg,x]:=by grind[renamed]
def jY(l:Linkage)(i:Nat)(N:Lk.Name):Bp [Ale,i,N] Bon=Bwt:=by show Cak k;grind[jX]
def amJ(O:Bfs=Bi)(N:Lk.Name):Ale i N=Cyi++Dcg::l.drop (i+1):=by let V:=(Dj O).1;show Cak k;grind[jX]
def zo(l:Linkage)(i:Nat)(N:Lk.Name):Bh:=l.zipIdx.any λ(z:Item×Nat)=>Hf !=i&&(HI).name==N
def g9(l:Linkage)(i:Nat)(N:Lk.Name):zo l i N=Aa↔∃k x,CS=Bi/\k≠i/\Bdu=N:=by
 rw[zo,saq];rw[TH];·grind
 ·rintro⟨k,x,K,G,z⟩;rw[Tp,(x,k),Aq,Aq]
def amK(V:Dy)(U:v<26)(f:d<=99)(I:¬zo l i [LO,65+v]=Aa):VL (Ale i [LO,65+v]):=by
 intro k y Q;rw[jX]at Q;rw[WM,x,O,w,Q];let R:=V k x O;let s:Bp Apr Bon=Bp [Hu,Ale i [LO,65+v],k] Bon:=by grind[List.map_take,jY]
 let J:∀j∈Hu [Ale,i,LO (65+v)] k,Awz≠y.name:=by
  intro j C;rw[Tc,u,F,sas C];rw[sbg]at F;rw[Tz,F]
  ·rw[TF,a];rw[jX]at F;rw[WM,z,B,h,F];rw[Td,H,u=i]
   ·let K:=AE
    grind[g9]
   ·rw[UY,H];rw[Td,b,k=i];·grind[g9]
    ·rw[Uz,b,w];rw[<-h,<-w];show V.names B O a
  ·grind
 rw[Td,Z,k=i];·rw[Ux,Z,w];subst w;show[Ds,Cry (65<=65+v),Cry (65+v<=90),f,J,by let:=R.room;rw[Ud,ug,this];rw[show An [Ale,i,_]=Ah from eC (jY l i _)];rw[TQ],acM s R.ln]
 ·rw[Uz,Z,w];subst w;show[Ds,R.a,R.z,R.n,J,by let:=R.room;rw[Ud,ug,this];rw[show An [Ale,i,_]=Ah from eC (jY l i _)];rw[TQ],acM s R.ln]
def zp:Line->D|.pin x y=>PK x y|.crank _ r=>BH [RA]|.dyad _ a _ b=>QV a En|.rider _ _ u v=>CN Ane Axg
def scx(u:Line):D:=HJ [Nz,Bby u,Avy]
def jZ(i:Item):Gi=Jw [Ft (tK i),Bvd,scx DM,zp DM]:=by unfold sw tK scx zp;rw[Wt]<;>rfl
def oS:Akq o 0 (Gi) (FF 3)=As (zp DM):=DY jZ
def j_:Akq o 0 (Gi) (FF 2)=As (scx DM):=DY jZ
def acN(u:Line):GL (zp u)=Aa:=by cases u<;>rfl
def amL{l:Linkage}:(∃(j:Nat)(x:Item),(Sh nm)=Ae j/\Anh=Bi/\Bdu=nm)\/((Sh nm)=Ad/\∀(k:Nat)(x:Item),CS=Bi->Bdu≠nm):=by cases h:(Sh nm)with|none=>show Bhg [BV,k,x,O,e];rw[Tg,sjN];let:=h x (tV O);rw[Tt,e];rw[XP]|some j=>rw[Tg,sh3];rw[Ut,C,G,_];rw[TB,Gd j l[j] [Dz,C] Dbj]
def amM(m n:Nat)(o:sd)(V:Dy)(i v d:Nat):Cg (n+2) 14 [CL,Aez,Abn,Azc]=Iz ((OR&&Bn d 99)=Af) Cay [Amf,SS,-4,[Amf,zo l i [LO,65+v]=Aa,-5,Bgo (Ale i [LO,65+v])]]:=by
 let t:=oJ m n o v;let P:Gp (Ajf>99)=! Bn d 99:=by
  rw[Tv,d<=99];·rw[Abb];show MT
  ·rw[OL];show Db
 let a:Blg 99 d=! Bn d 99:=P;let r:=gU m n o l i;let I:=jA Cpu m n [LO,65+v];rw[VE,K,Ol d,QV v Azc,t8,Bca ((Ay (65+v)-65)=Axp)]
 rw[ahN,Ap];rw[Va,v<26]
 ·rw[Ud,Bty,t];rw[Td,L,d<=99]
  ·rw[Bx L]at P a|-;rw[Bmy];rw[Td,F,SS];·rw[TX,F,r];rw[Uh,zX,t,P,a,r]
   ·rw[TR,F,r];rw[Us,x,O,x,Bfs=Bi,l[i]' Ac,SH];let q:=(Cpu).idx O;let l0:=(Bgm).2.2;let p:=amJ O [LO,65+v];let R:(FU v Axp)=Aa:=Bx Ab;let W:ux o (CL) GO (Aez)=Mn Ccs:=by let:=aaA (st:=o) (xs:=Ht) (l:=0) (h:=i);rw[Tt,show t3 (Ht) 0 i=Ccs by unfold t3;rw[sfe,sa8]];rw[TQ]
    let N:ux o (CL) (Ec (MC+1)) (Bbv Ht)=Mn [Bzn,(i+1)]:=by let:=aaA (st:=o) (xs:=Ht) (l:=i+1) (h:=Bsi);rw[Tt,show t3 (Ht) (i+1) Bsi=Bzn (i+1)by unfold t3;rw[yt,sch]];rw[TQ]
    let J:sfb o (CL) (Ec (MC+1))=Mn [Bzn,(i+1)]:=N;let A:sY [An,Ccs] 1=Aa:=aP [Aqb,sr,ug];let Y:[Asi,HA Ccs [Cgi [LO,65+v]],Bzn (i+1)]=Aa:=aP (by rw[su,sr,sr,ug,zH,s0];omega);let M:Awn [Ft (tK x),Ol d,Bcv x,zp Bte]=Cgi [LO,65+v]:=DY jZ
    let u:GL [Cgi,LO (65+v)]=Aa:=de;rw[Ti,U,GL [Ol,d]=Aa];rw[Ti,pu,GL [Bcv,x]=Aa];let X:=acN Bte;rw[Tx,s,Eu (Awq [BN,Arb]=Bgb),k,aS];let c:D.lst (Ccs++[Cgi [LO,65+v]]++Bzn (i+1))=uu (Ale i [LO,65+v]):=by rw[p];unfold uu;rw[xI,tz,uk];rfl
    rcases amL (l:=l) (nm:=LO (65+v))with⟨j,y,C,Q,f⟩|⟨C,H⟩
    ·rw[C]at I;let b:Fa 1 2 CL [Ol,d]=BN [AT,j]:=I;rw[Td,g,j=i]
     ·let T:¬zo l i [LO,65+v]=Aa:=by
       rw[g9];rintro⟨k,z,B,Z,e⟩;subst g;rw[WS,Nat.lt_or_ge k j];·show V.names B Q h [Ni,e,f]
       ·show V.names Q B Ac [Ni,e,f]
      rw[AF T];let w:FU j MC=Aa:=Db;simp only[zX,csAll,t,P,a,r,<-K,b,w,q,W,J,br,j_,oS,U,pu,X,M,u,A,Y,c,s];try rfl
     ·let T:zo l i [LO,65+v]=Aa:=[Hg,g9 _ _ _,DL j y Q g f];rw[Av T];rw[UW,w,FU j MC=Af];simp only[zX,csAll,t,P,a,r,<-K,b,w,sL,sC];try rfl
    ·rw[C]at I;let b:Fa 1 2 CL [Ol,d]=Cnq:=I;let T:¬zo l i [LO,65+v]=Aa:=by rw[g9];rintro⟨k,z,B,Z,e⟩;show H k z B e
     rw[AF T];simp only[zX,csAll,t,P,a,r,<-K,b,q,W,J,br,j_,oS,U,pu,X,M,u,A,Y,c,s];try rfl
  ·rw[B_ L]at P a|-;rw[Av Dc];rw[UN,zX,t,P,a,sL,sC];try rfl
 ·rw[Ud,B_ G,t];rw[vG,JO];rw[UA,zX,t,sL,sC];try rfl
def xS(l:Linkage)(k:Nat):Ak:=Cfj CS Atv []
def oT(h:CS=Bi):xS l k=Atv:=Auz xS h
def zi(l:Linkage)(i:Nat):Aw->Ak|0=>[]|k+1=>[Alu,(Alr k i&&Aog (xS l k) u Aof)=Aa,Hx++[k],Hx]
section
variable{l:Linkage}{i:Nat}
def ce(k:Nat):Ob (k+1)=[Alu,(Alr k i&&Aog (xS l k) u Aof)=Aa,Hx++[k],Hx]:=rfl
def be:∀{k j:Nat},j∈Hx->j<k
|0,j,h=>SF
|k+1,j,h=>by
 rw[Tg,ce];rw[Tn]
 ·rw[Wp,h];·show sgK (be h)
  ·rw[Bab];omega
 ·show sgK (be h)
def amN(k c:Nat):∃r,Ob (k+c)=Hx++r/\∀j∈r,k<=j:=by
 induction c with
 |zero=>rw[Tp,[],AY,λj h=>SF]
 |succ c d=>
  obtain⟨r,e,w⟩:=d;rw[<-sdI];rw[ce];split
  ·rw[Tp,r++[k+c],Hy e uk,AV j C];rw[Wp,C];·show w j h
   ·rw[Bab];omega
  ·rw[Tp,r,e,w]
def oU(F:u<k):u∈Ob (k+c)↔Afn:=by rw[Te,r,e,w,Dee k];rw[e,saf];rw[Th,GG (h.elim id [Bzu,(w u h)]),.inl]
def acO(h:Afn):u∈Ob (u+1):=by let F:=be h;rw[Us,c,rfl,c,k=u+1+c,k-u-1,AE];show(oU Ac).mp h
def amO(h:u∈Ob (u+1)):u≠i/\∀w∈xS l u,w∈Ob u:=by
 rw[Tg,ce];rw[Tn];·rw[TF,c];rw[si,uw,tZ]at c;rw[Th,c.1,λw Y=>Amo (c.2 w Y)]
 ·rw[Ug,be h,Ac]
def acP(h:Afn):∃r,Hx=Ob u++u::r:=by
 let G:=acO h;let F:=be h;rw[Us,c,rfl,c,k=u+1+c,k-u-1,AE];rw[Te,r,e,w,Dee (u+1)];rw[Uf,r];rw[e];rw[Ud,ce,G];rw[Tz,G];·rw[TF,q];rw[Av q,uk];rfl
 ·rw[Ug,be G,Ac]
def zq(l:Linkage)(i u:Nat):Aw:=An [Ob,u]
def acQ(h:Afn):(Hx)[Asg]?=BW:=by rw[Tc,r,e,acP h];rw[e];unfold zq;rw[Btt,zm];rfl
def acR(h:u∈Ob w):Asg<QM w:=by rw[Tc,r,e,acP h];unfold zq;rw[e,su,sT];omega
def oV(F:Afn)(Y:w∈Hx)(h:Asg=QM w):u=w:=by let a:=acQ F;rw[h,acQ Y]at a;show Cdd a
def acS(u:Nat):Asg<=u:=by
 unfold zq;induction u with
 |zero=>show sdQ 0
 |succ u d=>
  rw[ce];split;·rw[su,s0];omega
  ·omega
def xj(l:Linkage)(i k:Nat):Ak:=(Cha k).foldl (λ(h:List Nat)(x:Item×Nat)=>[CH,Gr=i\/((Bam Ee).any [Bin,h.contains k])=Aa,h++[Gr],h]) []
def amP:Cki i=xj l i Ah:=by unfold hanging xj;rw[sgI (Dbd)]
def acT(h:CS=Bi):Cha (k+1)=Cha k++[(x,k)]:=by
 let:l.zipIdx[k]?=Ep x k:=Bfr List.getElem?_zipIdx h
 rw[scq,this];rfl
def amQ(h:CS=Bi):xj l i (k+1)=[CH,k=i\/((Atv).any [Bcj,IW (xj l i k) u])=Aa,xj l i k++[k],xj l i k]:=by unfold xj;rw[acT h,List.foldl_append];rfl
def acU(U:NK):[Brl,k<=Ah,∀j,j∈xj l i k↔j<k/\j∉Hx]
|0,_,j=>by unfold xj;simp
|k+1,Z,j=>by
 let d:=acU U (k:=k) Ac;rw[Us,x,O,x,CS=Bi,l[k]' Ac,SH];let a:=U k x O;rw[amQ O];let cond:(k=i\/((Atv).any [Bcj,IW (xj l i k) u])=Aa)↔¬(Alr k i&&Aog (xS l k) u Aof)=Aa:=by
  rw[oT O,si,uw,tZ,saq];rw[TH]
  ·rintro(h|⟨u,F,L⟩)⟨G,z⟩;·show G h
   ·show((d u).mp (Amo L)).2 (Amo (z u F))
  ·rw[UH];rw[Va,k=i];·rw[TB,G]
   ·show Cba;show sh9 λf=>h [Aj,G,AV u F];show Bsp (sh9 λB=>f [Am,u,F,Bsp ([Blo,d u,a u F,B])])
 rw[ce];rw[Td,c,(k=i\/((Atv).any [Bcj,IW (xj l i k) u])=Aa)]
 ·rw[Av c,Aje (cond.mp c),saf,sct,d j];rw[TH]
  ·rintro(⟨G,z⟩|rfl);·rw[Th,AE,z]
   ·rw[Th,AE,Bzu (be h)]
  ·rintro⟨G,z⟩;rw[Td,C,j=k];·rw[TN,C]
   ·show FJ AE z
 ·let A:(Alr k i&&Aog (xS l k) u Aof)=Aa:=sh9 [GG,c (cond.mpr h)];rw[AF c,Av A,saf,sct,d j];rw[TH];·rintro⟨G,z⟩;rw[Th,AE,GG (h.elim z Ac)]
  ·rintro⟨G,z⟩;let:j≠k:=GG (z (Bw h));rw[Th,AE,GG (z (OJ))]
def acV(U:NK)(C:j<Ah):(! IW [Cki,i] j)=IW [Ob,(j+1)] j:=by
 rw[amP];let h:=acU U (i:=i) (sdQ Ah) j;let z:j∈Bsu↔j∈Ob (j+1):=by rw[Us,c,L,c,Ah=j+1+c,Ah-j-1,AE];rw[L];show oU Ac
 rw[Td,q,j∈Ob (j+1)];·rw[Bsp q,xT,<-uU,wE,h];showλ⟨_,b⟩=>b (z.mpr q)
 ·let a:IW (xj l i Ah) j=Aa:=Bsp (h.mpr [Aj,C,λb=>q (z.mp b)]);rw[a];symm;rw[shX,<-uU,wE];show q
def acW:Ob (k+1)=[Alu,IW [Ob,(k+1)] k=Aa,Hx++[k],Hx]:=by
 rw[Td,q,(Alr k i&&Aog (xS l k) u Aof)=Aa]
 ·rw[UX,e,Ob (k+1),Hx++[k],ce,Av q]
  rw[e,Av (Bsp (saf.mpr (Bw (sct.mpr Ab))))]
 ·rw[UX,e,Ob (k+1),Hx,ce,AF q]
  rw[e,Aje [Bzu,(be (Amo h))]]
def acX(U:NK):[Brl,k<=Ah,[Pp,k].filter (Bkk (! IW [Cki,i] j))=Hx]|0,_=>rfl|k+1,Z=>by rw[List.range_succ,sdS,acX U Ac,acW,wT,List.filter_nil,acV U Ac];split<;>simp
def uX(l:Linkage)(i:Nat)(x:Item):IH:={x with line:=Bcl (zq l i) Bte}
def amR(h:∀w∈Bby u,f w=g w):Bcl f u=Bcl g u:=by
 cases u<;>simp only[Line.put,Line.uses,yQ,xU,or_false,forall_eq_or_imp,forall_eq]at h|-;·rw[h]
 ·rw[Bk,Ck]
 ·rw[Bk,Ck]
def acY(U:NK):Atw=Bcc (Bsu) [HN,Bp CS (uX l i)]:=by
 let C:Eu (k<=Ah->Bp ((Cha k).filter λ(x:Item×Nat)=>! IW [Cki,i] Gr) (λx=>uX l i Ee)=Bcc (Hx) [HN,Bp CS (uX l i)]):=by
  intro k;induction k with
  |zero=>intro _;rfl
  |succ k d=>
   intro Z;rw[Us,x,O,x,CS=Bi,l[k]' Ac,SH];rw[acT O,sdS,xI,d Ac,acW,wT,List.filter_nil,acV U Ac];split;·rw[List.filterMap_append,sc1,O];rfl
   ·simp
 let:=C Ah Do;rw[Tt,sgI (Dbd)];rw[<-this];unfold without;show Avx x O;let O:=(saH.mp O).1;rw[Uq,x,k];rw[List.mem_zipIdx_iff_getElem?]at O;let Z:=(Dj O).1;unfold uX;change Item.mk Bdu _=Item.mk Bdu _;show vo (Item.mk Bdu) (amR [AV,w,Y]);let:=U k x O w Y;unfold zq;rw[<-acX U (i:=i) (k:=w) Ac]
end
def vh(l:Linkage)(i k:Nat):Arf:=Bcc (Hx) [HN,Bp CS (uX l i)]
section
variable{l:Linkage}{i:Nat}
def j6(O:CS=Bi):vh l i (k+1)=[Alu,(Alr k i&&Aog (xS l k) u Aof)=Aa,vh l i k++[uX l i x],vh l i k]:=by grind[vh,ce]
def oW:[Brl,k<=Ah,An (vh l i k)=QM k]|0,_=>rfl|k+1,Z=>by rw[Us,x,O,x,CS=Bi,_,SH];let d:=oW (k:=k) Ac;rw[Wn,zq,d];rw[j6 O,ce];grind
def hh:∀{k u:Nat}{x:Item},k<=Ah->Afn->l[u]?=Bi->(vh l i k)[Asg]?=As (uX l i x)
|0,u,x,_,h,_=>SF
|k+1,u,x,Z,h,O=>by
 rw[Us,y,Q,y,CS=Nc,_,SH];let L:=oW (l:=l) (i:=i) (k:=k) Ac;rw[j6 Q];rw[Tg,ce];rw[Tn]
 ·rw[TF,c];rw[Av c];rw[Wp,h];·rw[fK [Cid,acR]];show hh Ac h O
  ·grind
 ·rw[TF,c];rw[AF c];show hh Ac h O
def acZ(h:y∈vh l i k):∃u x,Afn/\l[u]?=Bi/\y=uX l i x:=by grind[vh]
def j7(F:Afn)(O:l[u]?=Bi)(Y:w∈Atv):w∈Hx:=by let h:=(amO (acO F)).2 w Dfe;let G:=be F;rw[Us,c,rfl,c,k=u+c,k-u,AE];grind[oU,be]
def j8(Z:k<=Ah)(F:Afn):∃x,l[u]?=Bi:=by let:=be F;rw[Ur,SH]
section
variable{k:Nat}(hk:k<=l.length)
include hk
def oX(F:Afn):uA (vh l i k) (Asg)=Apz u:=by rw[Tc,x,O,j8 hk F];unfold uA;rw[hh hk F O,O];rw[Uq,N,H];cases H<;>rfl
def amS(F:Afn)(h:e∈Hx):sZ (vh l i k) (Asg) (QM e)=sZ l u e:=by
 rw[Tc,x,O,j8 hk F];let C:∀p∈Atv,(QM e==QM p)=(e==p):=by rw[U'];let I:=j7 F O Y;grind[oV]
 unfold sZ;rw[hh hk F O,O];rw[Uq,N,H];cases H with|pin a b=>rfl|crank p r=>show C p IR|dyad p a q b=>let K:=C p IR;let U:=C q IR;change(QM e==QM p||QM e==QM q)=(e==p||e==q);grind|rider p q a b=>rfl
def amT(F:Afn):uV (vh l i k) (Asg)=Ayq u:=by rw[Tc,x,O,j8 hk F];unfold uV;rw[hh hk F O,O];rw[Uq,N,H];cases H with|rider p q a b=>let K:=oX hk (j7 F O (w:=p) IR);let U:=oX hk (j7 F O (w:=q) IR);change(uA ..&&uA ..)=(Aav&&Aet);grind|_=>rfl
def amU(F:Afn)(Y:e∈Hx):wD (vh l i k) (Asg) (QM e)=wD l u e:=by grind[wD,oX,amS]
end
def amV(U:NK)(h:p<k):uV NE p=Ayq p:=by unfold uV;rw[sda h];cases O:l[p]? with|none=>rfl|some x=>rw[Uq,N,H];cases H with|rider a b u v=>let G:=U p _ O a IR;let z:=U p _ O b IR;grind[ab_]|_=>rfl
def oY(f:Cbs)(R:∀g u,f (Bcl g u)=f u):[Brl,k<=Ah,An [Bkv,(vh l i k),i,Bsv]<=An [Bkv,NE,i,Bsv]]
|0,_=>Bls
|k+1,Z=>by
 rw[Us,x,O,x,CS=Bi,_,SH];let d:=oY f R (k:=k) Ac;rw[j6 O,scq,O,sdS,su];change _<=_+An ([x].filter _);split
 ·rw[sdS,su];let:An [Bkv,[uX l i x],i,Bsv]=An [Bkv,[x],i,Bsv]:=by rw[wT];change AG (Bo (f (Line.put ..)=Aa) _ _:Arf)=_;grind
  omega
 ·omega
def ac_(V:Dy):[Brl,k<=Ah,VL (vh l i k)]
|0,_=>VL.nil
|k+1,X=>by
 rw[Us,x,O,x,CS=Bi,_,SH];let d:=ac_ V (k:=k) Ac;rw[j6 O];split
 ·rw[TF,c];rw[Uc,B,k<=Ah]
  let R:=V k x O;rw[si,tZ]at c;rw[TW,W,∀w∈Atv,w∈Hx,w,Y,Amo (c.2 w Dfe)];let n:=oW (i:=i) B;rw[TW,J,∀w∈Atv,QM w<An (vh l i k),w,Y,Cxh acR]
  let N:=acS (l:=l) (i:=i) k;let o:=R.room;show d.snoc ⟨R.a,R.z,R.n,?_,Aq,?_⟩;·intro j C;rw[Tk,u,y,K,Q,rfl,acZ C];show R.new y (sjV.mpr [Am,u,Byr (be K),(Dj Q).2])
  ·rw[WK];rw[Uq,s,H];let M:∀j∈vh l i k,∃y∈Apr,j=uX l i y:=by intro j C;rw[Tk,u,y,K,Q,rfl,acZ C];rw[Tp,y,sjV.mpr [Am,u,Byr (be K),(Dj Q).2],Ab]
   cases H with
   |pin a b=>rw[Tp,U.1,U.2.1,GX j C];rw[Te,y,Q,rfl,M j C];show U.2.2 y Q ?_;obtain⟨f,m⟩:=y;rw[Uk]<;>first|show e|rw[Tr]
   |crank p r=>
    rw[Wj,G,z,F,A,L];let P:=W p IR;show⟨J p IR,?_,F,A,?_⟩;·rw[amT B P,<-amV Ccx (be P)];show z
    ·rw[Ud,oQ,L];let:=oY (i:=i) sh8 (λg u=>by cases u<;>rfl) B;omega
   |dyad p a q b=>rw[Wz,G,z,F,A,L,I,T,Z];show⟨J p IR,J q IR,E_ (F (oV (W p IR) (W q IR) e)),A,L,I,T,?_⟩;rw[Ud,oR,Z];let:=oY (i:=i) zl (λg u=>by cases u<;>rfl) B;omega
   |rider p q u v=>rw[Wj,G,z,F,A,L];let P:=W p IR;let h:=W q IR;show[Ath,J p IR,J q IR,E_ (F (oV P h e)),L];rw[amU B P h,<-ab0 (be P) (be h)];show A
 ·show d
def amW(U:NK):Atw=vh l i Ah:=acY U
def amX(V:Dy):VL (Atw):=[Cb,amW Ccx,ac_ V Do]
end
def xV(l:Linkage)(i k:Nat):Bkf D:=Nz Hx [Bcj,(KC,Cdu)]
def amY(G:CB v=Jy vd)(z:CB k=On kz)(F:Ano=Ape)(H:Ami=Arj kvs)(L:(Bvj (kvs.lookup kz)&&(t4 vd&&Bl kvs.length BI))=Aa):Aan (.put i k v)=DJ ρ (Alj (Pw (kvs++[(kz,vd)]))):=by change Kp [CB,v] (KA v [Jg,CB k,k,_])=_;rw[G,bJ,z,bJ];change(match Ano,JS kz with|some (.cell a),.int k=>_|_,_=>_)=_;rw[F];change(match Ami with|some (.dict kvs)=>_|_=>_)=_;rw[H];change Aip=_;rw[Av L]
def amZ(h:Ano=Ape)(z:Ami=Arj kvs):CB (.ao i)=[Dr,Pw kvs,Alj Adx]:=by change Apo Ano _ _=_;rw[h];change(match Ami with|some (.lst C)=>_|some (.dict kvs)=>_|_=>_)=_;rw[z]
def j9{o:sd}:Ip (o++OG) Cf d=o++[d]:=Agj (sft _ _ Ac) zm
def hF{o:sd}:(o++OG)[Cf]?=AW:=AY
def oZ{o:sd}:Hu (o++OG) Cf=o:=AY
def o_(f:Aw->D):∀(W:Ak)(u:Nat),JK (W.map [Bcj,(KC,f u)]) KC=CH (u∈W) [As,f u] Ad
|[],u=>rfl
|w::W,u=>by
 rw[tz,tX,o_ f W u];rw[Tv,u=w];·subst h;simp
 ·let:(KC==Au w)=Af:=Arl Ac;rw[this];simp[h]
def am_(f:Aw->D)(W:Ak)(u:Nat):((W.map [Bcj,(KC,f u)]).any λp=>AQ Ax KC)=W.contains u:=by
 rw[sdg];rw[Tv,u∈W];·rw[Bsp h,saq];rw[Tp,u,h,Bx Ab]
 ·let:W.contains u=Af:=by rw[<-uU,wE];show h
  rw[this,List.any_eq_false];intro w Y;let:w≠u:=Ceh (e▸Y);rw[UC,scy,uw];omega
def ac0:An Hx<=k:=acS k
def am0(m n:Nat)(o:sd)(U:NK)(W:Bmh)(i:Nat):Fa 1 15 CL Aez=BN [Pw,(Ads)]:=by
 obtain⟨J,V,O,r,q,R,f,a⟩:=aaE (cl:=LX) (m:=m) (i:=3) (j:=4) (it:=Qd Bf) (b:=Bvi (Akz [Bkt,BJ,AL] [Bwa,(Gf CT 2),5,.cmp .vp CQ Bj]) (.put 2 BJ (Bdh))) (s:=Qd (CL)) (items:=vN 0 (Ht)) (λk A V=>∃(r q R:LI),A=[BL,Qp,El,r,q,R]/\V=o++[Bnf]) (ρ:=[BL,Qp,El,Ad,Ad,Ad]) (st:=o++[Pw []]) Chx (DY dR) (by rintro k A V⟨r,q,R,rfl,rfl⟩;show Bva (gz (xs:=Ht) Ab)) (by
  rintro k x y A V Z⟨r,q,R,rfl,rfl⟩;rw[gy,tD,Option.map_map]at Z;rw[WM,t,I,w,Z];let w:(Apn [Cn,0+k],sw t)=(x,y):=w;rw[sal]at w;injection w with O Q;subst O Q;let kl:=(Dj I).1;rw[Ti,g,yr (o++Bgd) (Bcv t)=Dr [Et,Bcv t] (o++[Bnf])];let X:xC (o++Bgd) (Adq)=As Ame:=by change(match(o++Bgd)[Cf]? with|some (.dict T)=>Ae T|_=>none)=_;rw[hF]
  let L:=aA (cl:=LX) (it:=Et [Gf,CT,2]) (i:=5) (j:=99) (b:=.cmp .vp CQ Bj) (ρ:=[BL,Qp,El,J_,Hq t,R]) (st:=o++[Bnf]) (s:=Et [Bcv,t]) (items:=Axe [Nz,Bam t,Avy] d d) (Abz [Ed,IW Hx PM]) [Cbn,j_,g] Aou (by
   rw[U'];rw[sO]at Y;rw[Ui,u,F,Y];show Anf;let e:zV (o++Bgd) .vp (AT u) (Adq)=[Dr,Ed Aof,o++Bgd]:=by change tG _ ([IP,xC _ (Adq),T,Ql [Bej,p,AQ Ax KC]])=_;rw[X];change SG (Ql ((Ame).any λp=>AQ Ax KC)) _=_;unfold xV;rw[am_]
   rw[Wm,scy,sP,e]);let K:Bp [IP,Nz [Bam,t] Avy,d,(Agt d:D×D)] (Abz [Ql,IW Hx PM])=Cee [IP,Bam t,u,Aof]:=by rw[sO,sO,sO];show Avx u _;rw[UC,scy,sP]
  rw[K]at L;rw[Wl,B,Gv (IP [Bam,t] u Aof) id,Aog (xS l k) u Aof,oT I,seE]
  let H:Bpk (o++Bgd) [Adq]=[Dr,Bbv Ame,o++[Bnf]]:=by
   let c:tP (o++Bgd) (Adq)=Ad:=by change(match(o++Bgd)[Cf]? with|some (.lst C)=>Jr|_=>none)=_;rw[hF]
   change tG _ (Nz (match tP _ (Adq)with|some C=>Ae BC|none=>Nz (xC _ (Adq)) λ(T:List (Int×D))=>Mi) [Cms,JS n])=_;rw[c,X];rfl
  let j:AQ Ey MC=AQ k i:=by
   rw[Tv,k=i];·rw[Abb];show Db
   ·rw[OL];show MT
  let v:=ce (l:=l) (i:=i) k;let b:Bvj (JK (Ame) Ey)=Aa:=by unfold xV;rw[o_ (λu=>Cdu),Aje [Bzu,(be h)]];rfl
  let N:Bl [An,Ame] BI=Aa:=Bx (by unfold xV;rw[sr];let:=ac0 (l:=l) (i:=i) (k:=k);omega);let M:=amY (cl:=LX) (m:=m) (i:=2) (a:=o.length) (k:=EL) (v:=Bdh) (ρ:=[BL,Qp,El,J_,Hq t,R]) (st:=o++[Bnf]) (vd:=Bbv Ame) (kz:=Ey) (kvs:=Ame) [Brk,H] Chx Chx hF (by rw[b,N];rfl);rw[j9]at M;rw[Td,c1,k=i]
  ·show Cnn [BL,Qp,El,J_,Hq t,R] (o++[Bnf]) _ _ _;·rw[Bx c1]at j;rw[UM,j]
   ·unfold xV;rw[v,Bui c1]
  ·rw[B_ c1]at j;rw[Td,P,(Aog (xS l k) u Aof)=Aa]
   ·show Cnn [BL,Qp,El,J_,Hq t,R] (o++[Pw (Ame++[(Ey,Bbv Ame)])]) _ _ _;·simp only[↓L,↓M,csAll,j,B,P]
    ·unfold xV;rw[v,Av (by rw[P];simp[c1]),xI,sr];rfl
   ·show Cnn [BL,Qp,El,J_,Hq t,R] (o++[Bnf]) _ _ _;·rw[uU]at P;simp only[↓L,csAll,j,B,P]
    ·unfold xV;rw[v,AF (by rw[si];show GG (P Ck))]) [DP,Ad,Ad,Ad,Ab];rw[dR,sr]at a;let G:=amZ (cl:=LX) (i:=2) (a:=o.length) (kvs:=Ads) (ρ:=J) (st:=V) (DY f) [Csp,a];let s:=ajC (cl:=LX) (ρ:=[BL,Qp,Ad,Ad,Ad,Ad]) (st:=o);rw[ahO,Ap];simp only[sg_,↓O,↓G,↓s,csAll];rw[a,j9];change SG _ (Hu (o++Cit) Cf)=_;rw[oZ]
def am1(f:Aw->Aw)(u:Line):Bby (Bcl f u)=Bp [Bby,u] f:=by cases u<;>rfl
def am2(f:Aw->Aw)(u:Line):zp (Bcl f u)=zp u:=by cases u<;>rfl
def am3(l:Linkage)(i:Nat)(x:Item):tK (uX l i x)=tK x:=by rw[Uq,N,H];cases H<;>rfl
def am4(l:Linkage)(i:Nat)(x:Item):Awn [Ft (tK x),t8 Bdu,HJ [Nz,Atv,Bcj Cdu],zp Bte]=sw (uX l i x):=by rw[jZ,am3];change _=Awn [Ft (tK x),t8 Bdu,scx (Bcl (zq l i) Bte),zp (Bcl (zq l i) Bte)];rw[am2];unfold scx;rw[am1,sO];rfl
def am5{st:sd}(G:Ajs=Aa)(z:Bbn<uq):sae ρ Iv v (st++[Bst])=DJ ρ (st++[Dq (xs++[v])]):=by unfold sae;rw[hF];change Aip=_;rw[G,Bvy,Bool.and_self,JO,j9]
def am6(i:Item):Ccb FN=Ctt:=by rw[VT,N];cases H<;>rfl
def am7(l:Linkage):Bua FN=Dx:=Auz cranks (sh_ [Jl,_,am6 i])
def am8(m n:Nat)(o:sd)(V:Dy)(i:Nat):Fa 2 16 CL Aez=Amf SS (-4) [Amf,Ix (Atw)=0,-3,Bgo (Atw)]:=by
 let T:=(Bgm).2.2;let U:=V.uses;let r:=gU m n o l i;let N:=am0 m n o U T i;rw[ahP,Ap];rw[Va,SS];·rw[TX,G,r];rw[UK,sdo,r]
 ·rw[TR,G,r];obtain⟨l0,I,O,q,R,c,f,a⟩:=iU (cl:=Bb (n+1)) (m:=m) (i:=4) (it:=.keys Bj) (b:=Axj 5 [Bkr,Dg] [Rg,3,Bek [Ary,Btg,Awc 1,Avt Art (Awc 2) 6 [Acf,Bj,JE],Bth]]) (s:=Ly (IP Ads p Cnt)) (items:=IP Ads p Cnt) (λt A I=>∃(q R c:LI),A=[BL,Qp,Arj (Ads),El,q,R,c]/\I=o++[Dq [Amd,Bcc (Hu Bsu t) [HN,Bp CS (uX l i)]]]) (ρ:=[BL,Qp,Arj (Ads),El,Ad,Ad,Ad]) (st:=o++[Aaf]) [Brk,sjv] Ab (by rintro t A I⟨q,R,c,rfl,rfl⟩;show ff.turn t) (by
   rintro t x y A I Z⟨q,R,c,rfl,rfl⟩;rw[TC,xV,Z];rw[sO,tD]at Z;rw[WM,u,F,W,Z];let W:Cnd u=(x,y):=W;injection W with O Q;subst O Q;let j:=tV F;rw[Tc,z,B,j8 Do j];rw[VS,H,(Bcc (Hu Bsu t) [HN,Bp CS (uX l i)]),b];let sfF:(Bcc (Hu Bsu (t+1)) [HN,Bp CS (uX l i)])=b++[uX l i z]:=by rw[scq,F,List.filterMap_append,H];change _++[u].filterMap _=_;rw[sc1,B];rfl
   let v:Aic<=24:=by
    rw[Wg,G,Aic,An [Hu,Bsu,t],H,List.length_filterMap_le _ _]
    rw[T_,ug];let:=ac0 (l:=l) (i:=i) (k:=l.length);omega
   let C:=(cR (st:=Jm (Bbt)) (l:=l)).idx B;rw[Ti,g,yr (Jm (Bbt)) (Bcv z)=Dr [Et,Bcv z] (o++[Dq Bbt])];let L:=aA (cl:=Bb (n+1)) (it:=Et [Awc,2]) (i:=6) (j:=99) (b:=Acf Bj JE) (ρ:=[BL,Qp,Arj (Ads),El,Cd u,Hq z,c]) (st:=o++[Dq Bbt]) (s:=Et [Bcv,z]) (items:=Axe [Nz,Bam z,Avy] d d) (Abz [AT,QM PM]) [Cbn,j_,g] Aou (by
    rw[U'];rw[sO]at Y;rw[Ui,w,hw,Y];show Anf;let h:=j7 j B hw;let e:y_ (Jm (Bbt)) (Pw (Ads)) (AT w)=Dr [AT,QM w] [Jm,(Bbt)]:=by change tG _ (JK (Ads) [Au,w])=_;unfold xV;rw[o_ (λu=>Cdu),NA];rfl
    rw[Wm,scy,sP,e]);let K:Bp [IP,Nz [Bam,z] Avy,d,(Agt d:D×D)] (Abz [Apn,QM PM])=[Nz,Bam z,Bcj Cdu]:=by rw[sO,sO];show Avx u _;rw[UC,scy,sP]
   rw[K]at L;rw[Ti,pn,Bud z.name=Aa];let pm:=acN [Fu,z];let M:=am4 l i z;let ap:=am5 (ρ:=[BL,Qp,Arj (Ads),El,Cd u,Hq z,c]) (st:=o) (xs:=Bbt) (v:=sw (uX l i z)) de (by rw[sr];unfold uq;omega);let ea:=e_ (cl:=Bb (n+1)) (m:=m) (i:=3) (a:=o.length) (e:=Amw 0 Btg [Awc,1] [Avt,Art,(Awc 2),6,Acf Bj JE] Bth) (ρ:=[BL,Qp,Arj (Ads),El,Cd u,Hq z,c]) (st:=o++[Dq Bbt]) Ab mu;show Cnn [BL,Qp,Arj (Ads),El,Cd u,Hq z,c] (o++[Dq (Bbt++[sw (uX l i z)])]) _ _ _;·rw[UM,C];rw[ea];simp only[↓L,csAll,br,gW,oS,pn,pm,M,ap]
   ·rw[sfF,xI];rfl) [DP,Ad,Ad,Ad,Ab];rw[sr]at a;rw[TC,xV,a];rw[sr,yt,<-acY U]at a;let J:Io (Bb (n+1)) Bbz [BL,Qp,Arj (Ads),Ad,Ad,Ad,Ad] o=Dr Adq (o++[Aaf]):=by rw[cM];rw[Wx]
  let il:vg I (Adq) (Atw):=abA [Csp,a];let X:=nI il m n FN;rw[am7]at X;let fz:=e9 (cl:=Bb (n+1)) (i:=3) (a:=o.length) (xs:=Amd Atw) (ρ:=l0) (st:=I) (DY f) [Csp,a];rw[Td,P,Ix (Atw)=0];·rw[Av P];rw[P]at X;let X:NU (n+1) 1 [Adq,Mu] I=Ew GO I:=X;rw[Ti,s,Pg Ia=Aa];simp only[sdo,↓J,↓O,csAll,r,N,f,X,s,sL,sC];rw[a];change sA.err _ (Hu (o++[_]) Cf)=_;rw[oZ]
  ·rw[AF P];rw[UW,s,Pg [Ay,Ix (Atw)]=Af];rw[f]at fz;simp only[sdo,↓J,↓O,csAll,r,N,f,X,s,↓fz];rw[a,j9];change SG _ (Hu (o++Cit) Cf)=_;rw[oZ];rfl
def am9(n d:Int)(j:CV d):Awl (Co n/Co d)=[(d.sign*n)/Ay [N_,n,PU],Au PU/Ay [N_,n,PU]]:=by rw[<-sd1,LkF.two,Rat.num_divInt,Rat.den_divInt];let g:d.gcd n=Nat.gcd ..:=Nat.gcd_comm ..;grind
def ac1(m n:Nat)(o:sd)(x d:Int)(j:CV d)(K:PU<m):[Fa,2,92,AZ x,AZ d]=Mn [JX,Awl (Co x/Co d)]:=by
 let c:=oM d;let a:=nY m n o x PU K;rw[am9 x d j];let A:0<N_ x PU:=Nat.gcd_pos_of_pos_right _ Ac;let f:Au (N_ x PU)∣x:=Dbf (Nat.gcd_dvd_left _ _);let e:Au (N_ x PU)∣d:=Dbf (Nat.gcd_dvd_right _ _);rw[TK,N_ x PU,g];rw[WG,p,Y];obtain⟨q,Z⟩:=e;rw[Uc,b,CV OP]
 rw[aiP,Ap];rw[Tv,d<0]
 ·let F:=Abb;let i:Sf (-OP)=Aa:=Db;let G:x.fdiv (-g)=-p:=sfG Ac Ag;let y:d.fdiv (-g)=-q:=sfG Ac Ag;let s:=sjW h;let W:d.sign*x/g=-p:=by rw[s,Y,show-1*(g*p)=g*(-p)by grind,sd7 _ b]
  rw[UX,N,PU/g,-q,Bpv (PU=OP*(-q)),sd7 _ b]
  simp only[se1,csAll,c,a,F,i,G,y,W,N]
 ·let F:Bl d 0=Af:=OL;let i:Sf OP=Aa:=Bx b;let G:x.fdiv OP=p:=sfG b Y;let y:d.fdiv OP=q:=sfG b Z;let s:d.sign=1:=Int.sign_eq_one_of_pos Ac;let W:d.sign*x/OP=p:=by rw[s,Int.one_mul,Y,sd7 _ b]
  rw[UX,N,Au PU/OP,q,Of (Au PU=OP*q),sd7 _ b]
  simp only[se1,csAll,c,a,F,i,G,y,W,N]
def scz(e r a b:Nat):Ao:=Awl ((LN (a*a)-LN (b*b))*Co e/(LN (e*e)-LN (r*r)))++Awl (LkF.sizeOf ((LN (a*a)-LN (b*b))*RV/(LN (e*e)-LN (r*r))))
def ana{x d:Int}(O:0<x)(j:CV d):LkF.sizeOf (Co x/Co d)=Co x/Bke PU:=by
 let C:(x/Co d)<0↔d<0:=by
  rw[Tx,N,Bnv q (q<0↔Bfv<0),q,by rw[<-Rat.not_le,<-Rat.num_nonneg,Int.not_le]]
  rw[N,<-sd1,Rat.num_divInt];let Z:0<Cwv:=Int.gcd_pos_of_ne_zero_left _ j;let f:Au (Cwv)∣x:=Int.gcd_dvd_right ..;rw[TK,Cwv,g];rw[WG,p,Y];rw[Uc,b,CV OP]
  let e:0<p:=by
   rw[Xv,shL 0 p];·grind
   ·grind
   ·let:=Int.mul_neg_of_pos_of_neg (Bca ((0)<OP)) h;omega
  rw[Xv,shL d 0];·rw[sjW h,show-1*x=g*(-p)by grind,sd7 _ b];grind
  ·grind
  ·grind[Int.mul_ediv_cancel_left]
 unfold LkF.sizeOf;rw[Tv,d<0];·rw[Av (C.mpr h),<-sd1,<-sd1,FZ (PU=-d),Rat.neg_divInt,Rat.divInt_neg']
 ·rw[AF Ag,FZ (PU=d)]
def anb(m n:Nat)(K:Alp<m)(o:sd){r b:Nat}(Y:Dm e)(w:Dm r)(M:Dm a)(T:b<a)(v:0<r)(Q:e≠r):Cg (n+3) 93 [Azx,RA,Azp,En]=Mn [JX,scz e r a b]:=by
 rw[TW,g,RG x (Dm x->x*x<=998001),x,O,He O O];let se:=g e Y;let u:=g r w;let y:=g a M;let z:=g b Ac;rw[TW,f,RG x (Dm x->tj [Au,x] [Au,x]=Aa),x,O,Ps 10 10 NG NG];let V:=f e Y;let P:=f r w;let N:=f a M;let F:=f b Ac;let l:(LG*LG)=Gq e e:=Bkn e e;let X:(Aii*Aii)=Gq r r:=Bkn r r;let i:(Au a*Au a)=Gq a a:=Bkn a a;let I:(Cj*Cj)=Gq b b:=Bkn b b;let c:b*b<a*a:=sia T T;let W:e*e≠r*r:=by
  rw[UH];rw[Wr,Nat.lt_or_gt_of_ne Q];·let:=sia q q;omega
  ·let:=sia q q;omega
 let s:scz e r a b=Awl (Bke ((Gq a a-Gq b b)*LG)/Bke (Gq e e-Gq r r))++Awl (Bke ((Gq a a-Gq b b)*Aii)/Co (Ay [AX,(Gq e e-Gq r r)])):=by
  unfold scz;let j:0<(Gq a a-Gq b b)*Aii:=Int.mul_pos Ac Ac;rw[<-ana j Ac];congr 2;·rw[sdC,scj,scj];rfl
  ·rw[sdC,scj,scj];rfl
 rw[s,xI];rw[TK,a*a,A];rw[TK,b*b,B];rw[TK,e*e,E];rw[TK,r*r,R];let G:tj (Abm-Au B) LG=Aa:=Ps 20 10 Ac NG;let U:tj (Abm-Au B) Aii=Aa:=Ps 20 10 Ac NG;let Z:=ac1 m n o ((Abm-Au B)*LG) (Au E-Au R) Ac Ac;let L:=ac1 m n o ((Abm-Au B)*Aii) [Ay,AX (Au E-Au R)] Ac Ac;let t:=oM (Au E-Au R);rw[Tx,d,Bnv q (An [Awl,q]=2),q,Ab];rw[TW,J,∀p q:Rat,Asi [An,Bjd [Awl,p]] [Bjd,Awl q]=Aa,p,q,aP (by rw[sr,sr,d,d];omega)];rw[Tx,H,∀C:Fs,Bfp Fo=BN Fo,k,aS];rw[aiQ,Ap];simp only[sht,csAll,V,P,N,F,l,X,i,I,G,U,Z,L,t,J,H]
def wF:JH Bjk|none=>True|some l=>Dy/\0<Dx
def yC(o:sd)(a:Nat)(s:LkF.State)(r:KL)(z:Bjk×Byx):Al:=(r=[Dr,Dq Cnu,Ahh (Bwi)]\/(r=CM (Bak Hf) o/\HI=s))/\wF HI
theorem yC.says(I:wF s)(h:r=Alx k):Ahc o s r (s,Oj k):=Aj [Kq,h,Ab] I
def ac2{o:sd}(h:Ail=Awi s):Ahh (vB s)=o:=by rw[Vi,Dj h];rw[<-z,List.set_getElem_self]
theorem yC.keeps(I:wF s)(P:Ail=Awi s)(h:r=Mn [JX,Bak A]):Ahc o s r (s,A):=Aj [AK,Ni h (ac2 P)] I
theorem yC.made(I:wF s)(S:SL l)(L:0<Dx)(h:r=CH (t9 l=Aa) [Dr,CW [AT Ah],Ahh (Bmu)] [Alx,-3]):Ahc o s r (Alm s l []):=by
 rw[acA S L];rw[Td,f,t9 l=Aa];·rw[TX,f,h];rw[Tp,OJ,Hg (fU S) f,L]
 ·rw[TR,f,h];show says I h
def o3{st:sd}:SQ Iv [Amv,Bst,Alj c]=Dr Bst [Alj,c]:=by
 let e:Iv=An [Alj,c]:=by rw[wv]
 rw[e];show aS
def anc:Adu Bst=Me xs:=aS
def ac3(V:Dy):An Lg<=1464:=by
 let K:∀(k:Linkage),(∀i∈k,i∈l)->An (k.flatMap (Avv l))<=Bco*61:=by intro k Z;induction k with|nil=>simp|cons i k d=>let G:=d λj C=>Z j (MA C);let z:=ou V (Z i Avl);let F:=jL (uW l i);rw[sfH,su,sT,eo,su,s0];omega
 let G:=K l [Abw,h];let z:=(Bgm).2.2;change Dfy (Avv l)<=1464;omega
section
variable(m n:Nat)(hm:sjB m){st:sd}{a:Nat}{s:LkF.State}(h:st[a]?=some (vB s))(I:wF s)
include h I
def ane(hm:Alp<m)(t:Ak):Ny s (IM (n+20) Cc [Jv,Amm]) (Py (.take t)):=by
 let N:=al_ m (n+9) hm st t;rw[aiX,Ap];change Ny s _ (DZ (Cwb<AH) (s,Oj (-2)) _);rw[Va,2048<AH];·rw[Av (show Cwb<AH from G)];rw[Ux,G,N];rw[UL];rw[UK,sdy,N]
 ·rw[Aje (show¬Cwb<AH from G)];rw[Uz,G,N];cases w:Bjp with|error e=>rw[w]at N;rw[Th,Bw Anf,I];rw[UK,sdy,N];rfl|ok l=>rw[w]at N;let x:=cV m (n+18) h l;let Q:=Bal Bgk [AT Ah];rw[Th,Are,al0 w];rw[UA,sdy,N,x,Q];rfl
def anf(g:D):Ny s (IM (n+20) 101 [Jv,g]) (Py .print):=by
 let j:=cU m (n+18) h;rw[aiY,Ap];cases s with
 |none=>show Cgs 9 I;rw[UK,se5,j]
 |some l=>
  let w:=al7 m (n+16) st I.1;show yC.keeps (A:=LkF.tells [Cn,An Lg] (Lg)) I h ?_;rw[XF,H,Bhk [xP (Lg)],Ce Bmg,xP,iS,sr]
  let J:Asi 2 [Nz,Lg,Cnj]=Aa:=Bx (by rw[sr];let:=ac3 I.1;unfold uq;omega);let X:Bdr (CW [Bmg,Bmg]) (xP (Lg))=Me ([Bmg,Bmg]++Nz Lg Cnj):=by unfold xP;rw[mw];change v7 (sY 2 _) _ _=_;rw[J];rfl
  let e:Bjd [Bak,(LkF.tells [Cn,An Lg] (Lg))]=[Bmg,Bmg]++Nz Lg Cnj:=by unfold LkFNeutral.shown LkF.tells LkF.ints;simp[sO,Function.comp_def]
  rw[e];rw[Uh,se5,j,w,H,X]
end
def aj:Rr o (x::r) 0=Fw x:=rfl
def au:Rr o (a::x::r) 1=Fw x:=rfl
def aE:Rr o (a::b::x::r) 2=Fw x:=rfl
def bw:Rr o (a::b::c::x::r) 3=Fw x:=rfl
def bK:Rr o (a::b::c::d::x::r) 4=Fw x:=rfl
def hH:Rr o (a::b::c::d::e::x::r) 5=Fw x:=rfl
def hJ:Rr o (a::b::c::d::e::f::x::r) 6=Fw x:=rfl
def ka(h:Iy l=Aa):∀b∈l,b=Aa:=by rw[YE]
section
variable(m n:Nat){st:sd}{a:Nat}{s:LkF.State}(h:st[a]?=some (vB s))(I:wF s)
include h I
def ang(K:BI<m)(o p:Nat)(N:Int)(b W y v:Nat):Ny s (IM (n+20) 102 [Jv,CW [AT o,HB,AZ N,En,AT W,AT y,Abn]]) (Py (.copier o p N b W y v)):=by
 let j:=cU m (n+18) h;rw[aiZ,Ap];cases s with
 |none=>show Cgs 9 I;rw[UK,z9,j]
 |some l=>
  let T:=(Cxo I.1).2.2;let t:=amD m (n+15) K st T o p N b W y v;change Ny Bgk _ ([DZ,Iy [OR,DD W,DD y,Aqv b,W%b==0]=Af,(II,Oj Hj),LkF.put Bgk l o p v (Lk.copier Ah o p (RW/NN) W y)]);rw[Va,Iy [OR,DD W,DD y,Aqv b,W%b==0]=Af];·rw[TX,G,t];rw[UL];simp only[z9,csAll,j,aj,au,aE,bw,bK,hH,hJ,t]
  ·rw[TR,G,t];rw[T_,sbf];let f:=ka G;unfold LkF.put;rw[UG,Auh\/Aui\/o=p];·rw[TX,z,t];rw[UL];simp only[z9,csAll,j,aj,au,aE,bw,bK,hH,hJ,t]
   ·rw[TR,z,t];rw[Ti,B,An (Lk.copier Ah o p (RW/NN) W y)=4];rw[B];rw[Td,F,(Btm 4 Afb)=Aa];·rw[TX,F,t];rw[UL];simp only[z9,csAll,j,aj,au,aE,bw,bK,hH,hJ,t]
    ·rw[TR,F,t];rw[Tc,S,L,amE I.1 (o:=o) (p:=p) (kn:=N) (kd:=b) (len:=W) (other:=y) (letter:=v) (Cm (f _ AN)) (f _ AN) z F];rw[UO,Z,l++Ant v o p (RW/NN) W y,k];show Buu S L I.2;rw[Td,H,t9 k=Aa];·rw[TX,H,t];let x:=cV m (n+18) h k;let Q:=Bal (Ja) [AT Bco];simp only[z9,csAll,j,aj,au,aE,bw,bK,hH,hJ,t,x,Q]
     ·rw[TR,H,t];simp only[z9,csAll,j,aj,au,aE,bw,bK,hH,hJ,t]
def anh(o p x b v:Nat):Ny s (IM (n+20) 103 [Jv,CW [AT o,HB,AT x,En,Abn]]) (Py (.inversor o p x b v)):=by
 let j:=cU m (n+18) h;rw[ai_,Ap];cases s with
 |none=>show Cgs 9 I;rw[UK,saa,j]
 |some l=>
  let T:=(Cxo I.1).2.2;let t:=acF m (n+15) st T o p x b v;change Ny Bgk _ ([DZ,Iy [OR,DD x,GY,Bl b x]=Af,(II,Oj Hj),LkF.put Bgk l o p v (Lk.inversor Ah o p x b)]);rw[Va,Iy [OR,DD x,GY,Bl b x]=Af];·rw[TX,G,t];rw[UL];rw[Vj,saa,j,aj,au,aE,bw,bK,t]
  ·rw[TR,G,t];rw[T_,sbf];let f:=ka G;unfold LkF.put;rw[UG,Auh\/Aui\/o=p];·rw[TX,z,t];rw[UL];rw[Vj,saa,j,aj,au,aE,bw,bK,t]
   ·rw[TR,z,t];rw[Ti,B,An (Lk.inversor Ah o p x b)=3];rw[B];rw[Td,F,(Btm 3 Afb)=Aa];·rw[TX,F,t];rw[UL];rw[Vj,saa,j,aj,au,aE,bw,bK,t]
    ·rw[TR,F,t];rw[Tc,S,L,acH I.1 (o:=o) (p:=p) (a:=x) (b:=b) (letter:=v) (Cm (f _ AN)) z F];rw[UO,Z,l++Acj v Ah o p x b,k];show Buu S L I.2;rw[Td,H,t9 k=Aa];·rw[TX,H,t];let K:=cV m (n+18) h k;let Q:=Bal (Ja) [AT Bco];simp only[saa,csAll,j,aj,au,aE,bw,bK,t,K,Q]
     ·rw[TR,H,t];rw[Vj,saa,j,aj,au,aE,bw,bK,t]
def ani(Y T:Int):Ny s (IM (n+20) 104 [Jv,CW [AZ Y,AZ T]]) (Py (.shift Y T)):=by
 let j:=cU m (n+18) h;rw[ai0,Ap];cases s with
 |none=>rw[UL];rw[UK,scc,j]
 |some l=>
  let t:=aml m (n+15) st l Y T;change Ahc _ _ _ (if(Bnr [AX,Y]&&Bnr [AX,T])=Af then(II,Oj _)else Alm _ (Ci (tf _ 1)) _);rw[Va,(Bnr [AX,Y]&&Bnr [AX,T])=Af];·rw[TX,G,t];rw[UL];rw[Uh,scc,j,aj,au,t]
  ·rw[TR,G,t];let S:SL (Ci (tf (Go (u+Y,v+T)) 1)):=oI I.1 λx y M A e=>Aq
   let L:Ix (Ci (tf (Go (u+Y,v+T)) 1))=Dx:=jV;rw[UO,Z,Ci _,k];show Buu S L I.2;rw[Td,H,t9 k=Aa];·rw[TX,H,t];rw[Uy,scc,j,aj,au,t,(cV m (n+18) h k),(Bal (Ja) [Bwn])]
   ·rw[TR,H,t];rw[Uh,scc,j,aj,au,t]
def anj(g:D):Ny s (IM (n+20) 105 [Jv,g]) (Py .quarter):=by
 let j:=cU m (n+18) h;rw[ai1,Ap];cases s with
 |none=>rw[UL];rw[UK,se6,j]
 |some l=>
  let t:=amm m (n+16) st l;change Ahc _ _ _ (Alm _ (Ci (tf _ 1)) _);let S:SL (Ci (tf (Go (-v,u)) 1)):=oI I.1 λx y M T e=>Aq
  let L:Ix (Ci (tf (Go (-v,u)) 1))=Dx:=jV;let R:=amn I.1;rw[UO,Z,Ci _,k];show Buu S L I.2;simp only[Av R,se6,csAll,j,t,(cV m (n+18) h k),(Bal (Ja) [Bwn])]
def ank(f:Nat):Ny s (IM (n+20) 106 [Jv,CW [AT f]]) (Py (.scale f)):=by
 let j:=cU m (n+18) h;rw[ai2,Ap];cases s with
 |none=>rw[UL];rw[UK,scd,j]
 |some l=>
  let t:=amp m (n+15) st I.1 f;change Ahc _ _ _ ([DZ,DD f=Af,(II,Oj _),Alm _ (Ci (tf _ f)) _]);rw[Va,DD f=Af];·rw[TX,G,t];rw[UL];rw[UA,scd,j,aj,t]
  ·rw[TR,G,t];rw[T_,sbf];let F:=((cx f).mp G).1;let S:SL (Ci (tf (Go (f*u,f*v)) f)):=oI I.1 λx y M T e=>by grind[Int.eq_of_mul_eq_mul_left]
   let L:Ix (Ci (tf (Go (f*u,f*v)) f))=Dx:=jV;rw[UO,Z,Ci _,k];show Buu S L I.2;rw[Td,H,t9 k=Aa];·rw[TX,H,t];rw[UN,scd,j,aj,t,(cV m (n+18) h k),(Bal (Ja) [Bwn])]
   ·rw[TR,H,t];rw[UA,scd,j,aj,t]
end
def ac4(l:Linkage)(V:Dy)(f:BU Aw):An [Box,f]<=8:=by show Bef (List.length_filter_le ..);rw[sib];let:=(Bgm).2.1;show Mc this
section
variable(m n:Nat){st:sd}{a:Nat}{s:LkF.State}(h:st[a]?=some (vB s))(I:wF s)
include h I
def anl(i v d:Nat):Ny s (IM (n+20) 107 [Jv,CW [Aez,Abn,Azc]]) (Py (.rename i v d)):=by
 let j:=cU m (n+18) h;rw[ai3,Ap];cases s with
 |none=>rw[UL];rw[UK,sa2,j]
 |some l=>
  let t:=amM m (n+17) st I.1 i v d;change Ahc _ _ _ (if(OR&&Apc)=Af then(II,Oj _)else DZ SS (II,Oj _) [DZ,zo l i _=Aa,(II,Oj _),Alm _ _ _]);rw[Va,(OR&&Bn d 99)=Af];·rw[TX,G,t];rw[UL];rw[UN,sa2,j,aj,au,aE,t]
  ·rw[TR,G,t];rw[sbf,si,uw,uw]at G;rw[UG,SS];·rw[TX,z,t];rw[UL];rw[UN,sa2,j,aj,au,aE,t]
   ·rw[TR,z,t];rw[Td,F,zo l i [LO,65+v]=Aa];·rw[TX,F,t];rw[UL];rw[UN,sa2,j,aj,au,aE,t]
    ·rw[TR,F,t];let V:=amK I.1 G.1 G.2 F;let L:Ix (Ale i [LO,65+v])=Dx:=acL (jY l i _);rw[UO,Z,Ale i _,k];show Buu Bkp L I.2;rw[Av ((fU Bkp).mp V)];rw[Vj,sa2,j,aj,au,aE,t,(cV m (n+18) h k),(Bal (Ja) [Bwn])]
def anm(i:Nat):Ny s (IM (n+20) 108 [Jv,CW [Aez]]) (Py (.cut i)):=by
 let j:=cU m (n+18) h;rw[ai4,Ap];cases s with
 |none=>rw[UL];rw[UK,sce,j]
 |some l=>
  let t:=am8 m (n+17) st I.1 i;change Ahc _ _ _ (DZ SS (II,Oj _) [Alm,_,_,_]);rw[UG,SS];·rw[TX,z,t];rw[UL];rw[UA,sce,j,aj,t]
  ·rw[TR,z,t];let V:=amX (i:=i) I.1;rw[UO,Z,Atw,k];rw[Td,F,Ix k=0]
   ·rw[Ux,F,t];let e:Alm Bgk k []=(II,Oj (-3)):=by unfold LkF.made;rw[Tc,e,Y,acy Bkp (Bw F)];grind
    rw[e];rw[UL];rw[UA,sce,j,aj,t]
   ·rw[Uz,F,t];show Cxt Bkp Ac;rw[Av ((fU Bkp).mp V)];rw[UN,sce,j,aj,t,(cV m (n+18) h k),(Bal (Ja) [Bwn])]
def ano(r x b:Nat):Ny s (IM (n+20) 109 [Jv,CW [RA,AT x,En]]) (Py (.straight r x b)):=by
 rw[ai5,Ap];let t:=amw m (n+13) st r x b;change Ahc _ s _ ([DZ,Iy _=Af,(s,Oj _),Alm s (vQ r r x b) _]);rw[Va,Iy [MG,DD x,GY,Bl b x]=Af];·rw[TX,G,t];rw[UL];rw[Uh,se7,aj,au,aE,t]
 ·rw[TR,G,t];rw[T_,sbf];let f:=ka G;rw[Tc,S,L,acJ (f _ (AY:MG∈_)) (f _ (AY:MG∈_))];let R:=oK (f _ (AY:MG∈_)) (f _ (AY:MG∈_)) (f _ (AY:DD x∈_)) (f _ (AY:GY∈_));rw[UO,Z,vQ r r x b,k];show Cxt S Ac;simp only[Av R,se7,csAll,aj,au,aE,t,(cV m (n+18) h k),(Bal (Ja) [Bwn])]
def anp(K:Alp<m)(e r x b:Nat):Ny s (IM (n+20) 110 [Jv,CW [Azx,RA,AT x,En]]) (Py (.round e r x b)):=by
 rw[ai6,Ap];let t:=amx m (n+13) st e r x b;change Ny s _ ([DZ,Iy [DD e,MG,DD x,GY,Bl b x,e !=r]=Af,(s,Oj Hj),Alm s (vQ e r x b) [scz e r x b]]);rw[Va,Iy [DD e,MG,DD x,GY,Bl b x,e !=r]=Af];·rw[TX,G,t];rw[UL];rw[UN,se8,aj,au,aE,bw,t]
 ·rw[TR,G,t];rw[T_,sbf];let f:=ka G;let q:=f _ (AY:DD e∈_);let g:=f _ (AY:MG∈_);let i:=f _ (AY:DD x∈_);let j:=f _ (AY:GY∈_);let l:b<x:=Cm (f _ (AY:Bl b x∈_));let w:e≠r:=by simp_all
  rw[Tc,S,L,acJ (a:=x) (b:=b) q g];let R:=oK q g i j;let d:=anb m (n+16) K (Alj (vB [Ada,vQ e r x b])) ((cx e).mp q).2 ((cx r).mp g).2 ((cx x).mp i).2 l ((cx r).mp g).1 w;rw[Ti,F,An (scz e r x b)=4];rw[UO,Z,vQ e r x b,k];rw[TK,scz e r x b,c];rw[acA S Ac,Av R];rw[Tp,Are,Hg (fU S) R,AE];let B:=cV m (n+18) h k;rw[Tx,Q,∀C,SQ Iv [Amv,Fo,Alj (vB (Ja))]=Dr Fo [Alj,(vB (Ja))],C,o3];rw[Ti,A,sY 1 1=Aa];let Y:Asi 2 Crp=Aa:=aP (Fb sr);let N:Bjd [Bak,Aj [Cn,Bco] OG]=[AT Bco,Bbv Crp]++Crp:=by unfold LkFNeutral.shown;simp
  rw[N];simp only[se8,csAll,aj,au,aE,bw,t,B,d,A,Y,Q]
def anq(x y:Int):Ny s (IM (n+20) 111 [Jv,CW [AZ x,AZ y]]) (Py (.figures x y)):=by
 let j:=cU m (n+18) h;rw[ai7,Ap];cases s with
 |none=>show Cgs 9 I;rw[UK,sdz,j]
 |some l=>
  let t:=ald m (n+2) st I.1.lines x y;let A:=ac4 l I.1 (Bct x y);change Ny Bgk _ (Bem (Amc x y=Af) (II,Oj Hj) (II,Aj (An [Box,(Bct x y)]) [Bjb (Box (Bct x y))]));rw[Va,Amc x y=Aa]
  ·rw[Ux,G,t];rw[AF Ag];rw[TK,Box (Bct x y),c];show yC.keeps I h ?_;let T:An [Bjb,c]=Aey:=by grind[LkF.ints]
   let J:Asi 2 Cmn=Aa:=aP (Fb sr);let N:Bjd [Bak,Aj [Cn,Aey] [Bjb c]]=[Bbv Cmn,Bbv Cmn]++Cmn:=by unfold LkFNeutral.shown;simp[T]
   rw[N];rw[UN,sdz,j,aj,au,t,J]
  ·rw[Uz,G,t];rw[Av Dcc];rw[UL];rw[Uh,sdz,j,aj,au,t]
def anr(K:Afe)(x y:Int)(k i A:Nat):Ny s (IM (n+20) 112 [Jv,CW [AZ x,AZ y,LM,Aez,AT A]]) (Py (.point x y k i A)):=by
 let j:=cU m (n+18) h;rw[ai8,Ap];cases s with
 |none=>rw[UL];rw[UK,sa3,j]
 |some l=>
  let t:=alh m (n+1) K st I.1.lines x y k i A;change Ahc _ _ _ (if(Amc x y&&Apc)=Af then(II,Oj _)else DZ SS (II,Oj _) (match Bla x y k with|.error _=>(II,Oj _)|.ok m=>(II,LkF.tells 0 _)));rw[TC,shY,t];rw[Va,(Amc x y&&Bn A 3)=Af];·rw[TX,G,t];rw[UL];rw[Vj,sa3,j,aj,au,aE,bw,bK,t]
  ·rw[TR,G,t];rw[UG,SS];·rw[TX,z,t];rw[UL];rw[Vj,sa3,j,aj,au,aE,bw,bK,t]
   ·rw[TR,z,t];cases R:Bla x y k with|error e=>rw[R]at t;rw[UL];rw[Vj,sa3,j,aj,au,aE,bw,bK,t]|ok p=>rw[R]at t;show yC.keeps I h ?_;rw[Ti,J,sY 2 2=Aa];simp only[sa3,csAll,j,aj,au,aE,bw,bK,t,J];rfl
end
def ant(h:Oz=Jd V):Aan (.zT i e)=Akd:=by change Cxs Oz _ _ _=_;rw[h]
def anu(h:Oz=CM x V):Aan (.zT i e)=JI [Pt,Cns] V:=by change Cxs Oz _ _ _=_;rw[h]
def anv(m n:Nat)(h:Ail=Awi s)(Z:k<=12)(f:Ahc o s (Fa 20 (Cc+k) Jv g) z):Cg (n+21) 113 [Jv,LM,g]=[Dr,Dq Cnu,Ahh (Bwi)]/\wF HI:=by
 show Pu f.2;let O:xD 1 (LM)=Ahl (Cc+k):=by change(CH (0<=Ey/\Ey<=12) [As,D.fn (Cc+Ga Ey)] Ad)=_;rw[Nj,sP]
 rw[ai9,Ap];rcases f.1 with e|⟨e,N⟩;·let t:=ant (cl:=Bb (n+20)) (m:=m) (i:=4) (e:=.wV BJ [LV,Bf,(Df)]) (ρ:=[Ape,J_,Ae g,Ahl (Cc+k),Ad]) (st:=o) (by rw[Wx];show e);let Q:=o3 (a:=a) (st:=o) (c:=Bwi) (xs:=Cnu);rw[Xx,se9,t,O,Q]
 ·let t:=anu (cl:=Bb (n+20)) (m:=m) (i:=4) (e:=.wV BJ [LV,Bf,(Df)]) (ρ:=[Ape,J_,Ae g,Ahl (Cc+k),Ad]) (st:=o) (by rw[Wx];show e);let Q:=anc (st:=o) (xs:=Cnu);rw[N,ac2 h];rw[Xx,se9,t,O,Q]
def ag(h:Dco b=Aa):Ay PM=z/\0<=z:=by rw[Tu,LkFNeutral.natural];rw[si,uw]at h;rw[Th,sfI Bk,Bk]
def dj(h:∀z∈l,0<=z):Apv l=Aa:=by unfold LkFNeutral.whole;rw[tZ];showλz B=>Bx (h z B)
def sjX(p:Int)(g:Ao):JP:=Bem (p=0) [[0],g] [p::g]
def slx:Aw->Aw|1=>0|2=>7|3=>5|4=>2|5=>0|6=>1|7=>3|8=>1|9=>3|10=>4|11=>2|12=>5|_=>0
def ac5{s:LkF.State}{r:JP}(h:Dds r=Bi):Dgh r=((Py x).1,Bak (Py x).2):=Auz LkFNeutral.step h
def anw{g:Ao}(h:Abk=0):g=[]:=sd8.mp h
def anx{g:Ao}(h:Abk=n+1):∃x r,g=x::r/\Ic=n:=by cases g with|nil=>rw[Tf]|cons x r=>rw[Ts,x,r,Ab,Cot]
def ac6(m n:Nat)(K:Afe)(h:Ail=Awi s)(I:wF s)(Z:k<=12)(J:k=0\/Abk=OQ)(M:Cql (Bnm)=Aa):∃x,Dds (Bnm)=Bi/\Ahc o s (Fa 20 (Cc+k) Jv [Dq,Cts]) (Py x):=by
 let t:Alp<m:=by let:=K 20 Cax;rw[Ti,e,Cn 2^20=1048576];omega
 match k,Z,J,M with
 |0,_,_,M=>
  let M:g.all (λ(z:Int)=>Dco 8)=Aa:=M;rw[tZ]at M;let w:Apv g=Aa:=dj λz B=>(ag (M z B)).2;show[HS,.take (Dcp),by change Oy (Apv g=Aa)=_;rw[Av w]];let e:D.lst (Cts)=xP (Dcp):=by unfold xP LkFNeutral.nats;rw[sO];congr 1;show sic λz B=>Hy scy (ag (M z B)).1
  rw[e];show ane m n h I t _
 |1,_,J,_=>rw[Tp,.print,by rw[Wf,Ajp];rfl,anf m n h I _]
 |2,_,J,M=>
  rw[Uw,j,d,Ajp];rw[Uw,F,u,d];rw[Uw,v,f,u];rw[Uw,r,i,f];rw[Uw,q,l,i];rw[Uw,R,A,l];rw[Uw,c,C,A];rw[Wf,C];let M:(HP j&&HP F&&Bl (-(2^63)) v&&Bl v (2^63)&&HP r&&HP q&&HP R&&HP c)=Aa:=M;rw[Vw,M];rw[Xq,⟨⟨⟨⟨⟨b,X⟩,_⟩,_⟩,H⟩,p⟩,U,y];show Pz (.copier Jk Ars v Bdk Bta [Ga,R] [Ga,c]);·change Oy (Apv [j,F,r,q,R,c]=Aa)=_;rw[Av (dj (by simp[(Abj).2,(ag X).2,(ag H).2,(ag p).2,(ag U).2,(ag y).2]))]
  ·let:=ang m n h I Ac Jk Ars v Bdk Bta [Ga,R] [Ga,c];rw[(Abj).1,(ag X).1,(ag H).1,(ag p).1,(ag U).1,(ag y).1]at this;rw[TQ]
 |3,_,J,M=>
  rw[Uw,j,d,Ajp];rw[Uw,F,u,d];rw[Uw,v,f,u];rw[Uw,r,i,f];rw[Uw,q,l,i];rw[Wf,l];let M:(HP j&&HP F&&HP v&&HP r&&HP q)=Aa:=M;rw[Vw,M];rw[Xq,⟨⟨b,X⟩,G⟩,H,p];show Pz (.inversor Jk Ars Ahm Bdk Bta);·change Oy (Apv [j,F,v,r,q]=Aa)=_;rw[Av (dj (by simp[(Abj).2,(ag X).2,(ag G).2,(ag H).2,(ag p).2]))]
  ·let:=anh m n h I Jk Ars Ahm Bdk Bta;rw[(Abj).1,(ag X).1,(ag G).1,(ag H).1,(ag p).1]at this;rw[TQ]
 |4,_,J,M=>rw[Uw,j,d,Ajp];rw[Uw,F,u,d];rw[Wf,u];rw[Vu,.shift j F,ani m n h I j F]
 |5,_,J,_=>rw[Tp,.quarter,by rw[Wf,Ajp];rfl,anj m n h I _]
 |6,_,J,M=>
  rw[Uw,j,d,Ajp];rw[Wf,d];let b:HP j=Aa:=M;show Pz (.scale Jk);·change Oy (Apv [j]=Aa)=_;rw[Av (dj (CO (Abj).2))]
  ·let:=ank m n h I Jk;rw[Tt,(Abj).1];rw[TQ]
 |7,_,J,M=>
  rw[Uw,j,d,Ajp];rw[Uw,F,u,d];rw[Uw,v,f,u];rw[Wf,f];let M:(HP j&&HP F&&HP v)=Aa:=M;rw[Vw,M];rw[Xq,b,X,G];show Pz (.rename Jk Ars Ahm);·change Oy (Apv [j,F,v]=Aa)=_;rw[Av (dj [Bqp,(Abj).2,(ag X).2,(ag G).2])]
  ·let:=anl m n h I Jk Ars Ahm;rw[(Abj).1,(ag X).1,(ag G).1]at this;rw[TQ]
 |8,_,J,M=>
  rw[Uw,j,d,Ajp];rw[Wf,d];let b:HP j=Aa:=M;show Pz (.cut Jk);·change Oy (Apv [j]=Aa)=_;rw[Av (dj (CO (Abj).2))]
  ·let:=anm m n h I Jk;rw[Tt,(Abj).1];rw[TQ]
 |9,_,J,M=>
  rw[Uw,j,d,Ajp];rw[Uw,F,u,d];rw[Uw,v,f,u];rw[Wf,f];let M:(HP j&&HP F&&HP v)=Aa:=M;rw[Vw,M];rw[Xq,b,X,G];show Pz (.straight Jk Ars Ahm);·change Oy (Apv [j,F,v]=Aa)=_;rw[Av (dj [Bqp,(Abj).2,(ag X).2,(ag G).2])]
  ·let:=ano m n h I Jk Ars Ahm;rw[(Abj).1,(ag X).1,(ag G).1]at this;rw[TQ]
 |10,_,J,M=>
  rw[Uw,j,d,Ajp];rw[Uw,F,u,d];rw[Uw,v,f,u];rw[Uw,r,i,f];rw[Wf,i];let M:(HP j&&HP F&&HP v&&HP r)=Aa:=M;rw[Vw,M];rw[Xq,⟨b,X⟩,G,H];show Pz (.round Jk Ars Ahm Bdk);·change Oy (Apv [j,F,v,r]=Aa)=_;rw[Av (dj (by simp[(Abj).2,(ag X).2,(ag G).2,(ag H).2]))]
  ·let:=anp m n h I t Jk Ars Ahm Bdk;rw[(Abj).1,(ag X).1,(ag G).1,(ag H).1]at this;rw[TQ]
 |11,_,J,M=>rw[Uw,j,d,Ajp];rw[Uw,F,u,d];rw[Wf,u];rw[Vu,.figures j F,anq m n h I j F]
 |12,_,J,M=>
  rw[Uw,j,d,Ajp];rw[Uw,F,u,d];rw[Uw,v,f,u];rw[Uw,r,i,f];rw[Uw,q,l,i];rw[Wf,l];let M:(Bl (-(2^63)) j&&Bl j (2^63)&&Bl (-(2^63)) F&&Bl F (2^63)&&HP v&&HP r&&HP q)=Aa:=M;rw[Vw,M];rw[Xq,⟨_,G⟩,H,p];show Pz (.point j F Ahm Bdk Bta);·change Oy (Apv [v,r,q]=Aa)=_;rw[Av (dj [Bqp,(ag G).2,(ag H).2,(ag p).2])]
  ·let:=anr m n h I K j F Ahm Bdk Bta;rw[(ag G).1,(ag H).1,(ag p).1]at this;rw[TQ]
 |k+13,Z,_,_=>omega
def anz(m n:Nat)(K:Afe)(h:Ail=Awi s)(I:wF s)(Z:k<=12)(J:k=0\/Abk=OQ)(M:Cql (Bnm)=Aa):Cg (n+21) 113 [Jv,LM,Dq Cts]=Dr [Dq,Cnx (Bnu).2] [Ahh,(vB (Bnu).1)]/\wF (Bnu).1:=by rw[Te,x,O,f,ac6 m n K h I Z J M];rw[ac5 O];show anv m n h Z f
def anA(c:JP):PyWqapbv.whole c=c:=by
 rcases c with _|⟨_|⟨n|n,t⟩,_|⟨y,_|⟨z,u⟩⟩⟩<;>try rfl
 all_goals
  rcases n with _|_|_|_|_|_|_|_|_|_|_|_|_|n<;>try rfl
  all_goals rcases t with _|⟨_,_|⟨_,_|⟨_,_|⟨_,_|⟨_,_|⟨_,_|⟨_,_|_⟩⟩⟩⟩⟩⟩⟩<;>rfl
def anB(h:Ddi=Ae j):∃k:Nat,k<=12/\p=Ey/\((k=0/\j=(0,1))\/(CV k/\j=(OQ,0))):=by
 rw[Tu,PyWqapbv.shape];rw[Td,H,p=0];·grind
 rw[UY,H];rw[Va,p=1];·rw[Vq,G];rw[Ts,1,AE,G,Aiv]
 rw[UY,G];rw[UG,p=2];·rw[Vq,z];rw[Ts,2,AE,z,Aiv]
 rw[UY,z];rw[Td,F,p=3];·rw[Vq,F];rw[Ts,3,AE,F,Aiv]
 rw[UY,F];rw[Td,A,p=4];·rw[Vq,A];rw[Ts,4,AE,A,Aiv]
 rw[UY,A];rw[Td,L,p=5];·rw[Vq,L];rw[Ts,5,AE,L,Aiv]
 rw[UY,L];rw[Td,I,p=6];·rw[Vq,I];rw[Ts,6,AE,I,Aiv]
 rw[UY,I];rw[Td,T,p=7];·rw[Vq,T];rw[Ts,7,AE,T,Aiv]
 rw[UY,T];rw[Td,Z,p=8];·rw[Vq,Z];rw[Ts,8,AE,Z,Aiv]
 rw[UY,Z];rw[Td,a,p=9];·rw[Vq,a];rw[Ts,9,AE,a,Aiv]
 rw[UY,a];rw[Td,bC,p=10];·rw[Vq,bC];rw[Ts,10,AE,bC,Aiv]
 rw[UY,bC];rw[Td,b,p=11];·rw[Vq,b];rw[Ts,11,AE,b,Aiv]
 rw[UY,b];rw[Td,c,p=12];·rw[Vq,c];rw[Ts,12,AE,c,Aiv]
 rw[UY,c];rw[Tf]
def anC(h:Cff f (p::r)=Ae b):∃(k:Nat)(g t:Ao)(i:QE JP)(A:Nat),k<=12/\p=Ey/\b=Bnm::i/\Cff A t=Ju/\((k=0/\∃n F,r=n::F/\0<=n/\Bur<=Axo/\g=F.take Bur/\t=F.drop Bur)\/(CV k/\OQ<=Ic/\g=r.take (OQ)/\t=r.drop (OQ))):=by
 cases f with
 |zero=>rw[Tf]
 |succ f=>
  rw[Tu,PyFlat.calls];cases L:PyFlat.call PyWqapbv.shape (p::r)with
  |none=>grind
  |some I=>
   obtain⟨c,t⟩:=I;rw[Tg,L];rw[Vb,h];cases u:Cff f t with
   |none=>grind
   |some i=>
    rw[Tg,u];let h:c::i=b:=Akx;rw[TC,PyFlat.call,L];rw[Vb,L];cases P:Ddi with
    |none=>grind
    |some j=>
     rw[Tj,k,Z,Y,d,anB P];rw[P]at L;rcases d with⟨R,e⟩|⟨R,e⟩
     ·rw[Uo];rw[Vb,L];rw[Uz,Ac,L];cases w:PyFlat.row r with
      |none=>grind[PyFlat.rows,List.drop_zero]
      |some C=>
       obtain⟨x,s⟩:=C;let N:PyFlat.rows 1 (r.drop 0)=Ep [x] s:=by rw[sfe];unfold PyFlat.rows;rw[w];rfl
       rw[N]at L;let L:=GF L;injection L with a H;subst H;subst R;cases r with
       |nil=>cases w
       |cons n F=>
        rw[TC,PyFlat.row,w];rw[Vb,w];rw[Td,B,0<=n/\Bur<=Axo];·rw[Ux,B,w];let w:=GF w;injection w with G z;show⟨0,x,s,i,f,AE,Y,?_,u,AK [DB,Ab,n,F,Ab,Hh,Gs,G.symm,z.symm]⟩;rw[<-h,<-a,Y];rfl
        ·rw[Uz,B,w];cases w
     ·rw[Uo];rw[Vb,L];rw[Td,U,Ic<OQ];·rw[Ux,U,L];cases L
      ·rw[Uz,U,L];let L:[Ep,(p::r.take (OQ))::[],r.drop (OQ)]=Ep c t:=L;let L:=GF L;injection L with a H;show⟨k,r.take (OQ),t,i,f,Z,Y,?_,u,Bw [AO,R,AE,Ab,H.symm]⟩;rw[<-h,<-a,Y];unfold sjX;rw[My]
def ac7:An [Bak,(Alm s l B).2]<=1+An (B.flatMap λl=>Axq::l):=by
 unfold LkF.made;split;·change 1<=_;omega
 ·change IV _ (B.flatMap _)<=_;grind
def anD(I:wF s)(c:LkF.Call):Bfn (Py c).2:=by
 rw[Tx,x,∀l:Arf,Bfn (Alm s l []).2,l,by grind[ac7,Nat.le_trans]]
 let O:∀(b:Bool)(f:Arf->Bjk×Byx),(∀l,s=II->Bfn (f l).2)->Bfn (LkF.of s b f).2:=by
  intro b f R;unfold LkF.of;cases s with
  |none=>rw[VI,1];omega
  |some l=>
   rw[TD];split;·rw[VI,1];omega
   ·grind
 let P:∀l o p v G,Bfn (LkF.put s l o p v G).2:=by
  intro l o p v G;unfold LkF.put;split;·rw[VI,1];omega
  ·split;·rw[VI,1];omega
   ·show x _
 cases c with
 |take t=>
  change Bfn (Bo _ _ _:Bjk×Byx).2;split;·rw[VI,1];omega
  ·split;·rw[VI,3];omega
   ·rw[VI,1];omega
 |print=>show O _ _ [AV,l,U];subst U;let:=ac3 I.1;change Baz [IV,_,(([Bjb (Lg)].flatMap λl=>Axq::l))];rw[Vs,sfH,List.flatMap_nil,ud,sT];unfold LkF.ints;rw[sr];omega
 |copier o p N K l m v=>show O _ _ λl U=>P _ _ _ _ _
 |inversor o p a b v=>show O _ _ λl U=>P _ _ _ _ _
 |shift Y T=>show O _ _ λl U=>x _
 |quarter=>show O _ _ λl U=>x _
 |scale f=>show O _ _ λl U=>x _
 |rename i v d=>
  show O _ _ [AV,l,U];split;·rw[VI,1];omega
  ·split;·rw[VI,1];omega
   ·show x _
 |cut i=>
  show O _ _ [AV,l,U];split;·rw[VI,1];omega
  ·show x _
 |straight r a b=>
  change Bfn (Bo _ _ _:Bjk×Byx).2;split;·rw[VI,1];omega
  ·show x _
 |round e r a b=>
  change Bfn (Bo _ _ _:Bjk×Byx).2;split;·rw[VI,1];omega
  ·show Li ac7 [Cgx,Baz (1+5)]
 |figures a b=>show O _ _ [AV,l,U];subst U;let:=ac4 l I.1 (Bct a b);change Baz [IV,_,(([Bjb (Box (Bct a b))].flatMap λl=>Axq::l))];rw[Vs,sfH,List.flatMap_nil,ud,sT];unfold LkF.ints;rw[sr];omega
 |point a b k i A=>
  show O _ _ [AV,l,U];split;·rw[VI,1];omega
  ·split;·rw[VI,1];omega
   ·rw[VI,4];omega
def ac8{k:Nat}(h:Aik=Ae z):Rs (.uh C) (LM)=On z:=by change Rr _ _ k=_;rw[vr,Nj,sP,tD,h];rfl
def anE:Bhk [.uh xs]=Bkx Bbn:=by change tG _ (Bp CU _)=_;rw[sr];rfl
def anF{l h:Nat}:ux st (.uh xs) (AT l) (AT h)=Me (JX (t3 xs l h)):=Ch
def ac9(C:Ao)(l n:Nat):t3 C l (l+n)=Hu (C.drop l) n:=Aiz t3 List.drop_take sjq
def ada{C:Ao}(h:C.drop k=p::r):Aik=Aat/\C.drop (k+1)=r/\k<BC:=by grind[List.drop_eq_nil_of_le,List.drop_eq_getElem_cons]
def anG{k:Nat}(Z:k<=12)(H:CV k):xD 2 (LM)=Cd OQ:=by match k,Z,H with|1,_,_=>rfl|2,_,_=>rfl|3,_,_=>rfl|4,_,_=>rfl|5,_,_=>rfl|6,_,_=>rfl|7,_,_=>rfl|8,_,_=>rfl|9,_,_=>rfl|10,_,_=>rfl|11,_,_=>rfl|12,_,_=>rfl|k+13,h,_=>omega
def anH(h:Ami=Bnb)(G:Ajs=Aa)(z:Bbn<uq):sae ρ a v st=DJ ρ (Alj [DK,xs++[v]]):=by grind[sae]
def anI(h:Ano=Ape)(Y:Oz=Me ys)(O:Ami=Bnb)(U:sY Bbn Bzk=Aa):Aan (.ext i e)=DJ ρ (Alj [DK,xs++ys]):=by change Apo (uj _ i) _ _=_;simp_all[uT,bJ]
def xW(s:LkF.State)(A:Ao):sd:=[vB s,Dq (A.map MY)]
def xk(l:Ao)(P:Nat)(q R c:LI):sM:=[Bfz,JD 0,JD 1,Cd P,q,R,c]
structure sfJ(l:Ao)(T:Ao)(place:Nat)(s:LkF.State)(acc:Ao):Al where
 inv:wF s
 le:place<=Ah
 rest:∃f cs,Cff f (l.drop place)=Ae cs/\Cqs cs=Aa/\T=acc++Ctn (Cfc s cs)/\acc.length+cs.length*2001<=700000
abbrev sid:Ss:=Fz 4 [Bkr,EL] 5 Cln [Agx,Ayp Cmr [Axj,5,Bmb Mq,F_ 3 [So,CQ,Bkr Cln]] [FA,F_ 3 [So,CQ,.tab 2 CT]],[QU,6,Aqd 113 AL Dg (.sl Bf CQ BJ),Rg 2 Cbt,.ext 2 H_]]
def anJ(m n:Nat)(hm:Afe)(M:sfJ l T P s l0)(hp:P<Ah)(q R x6:LI):∃a d G0 Q o v,Ml (Bb (n+21)) sid (xk l P q R x6) (Baf)=DJ (xk l a Q o v) (xW d G0)/\sfJ l T a d G0/\P<a:=by
 obtain⟨I,F1,f,b,u,D0,hT,Q0⟩:=M;cases j:l.drop P with
 |nil=>let:=Cfw j;rw[VW,zH,sdk];omega
 |cons p r=>
  rw[Te,U0,w,_,ada j];rw[j]at u;obtain⟨k,g,t,i,A,Z,rfl,rfl,H0,Y⟩:=anC u;let C0:Cql (Bnm)=Aa/\Cqs i=Aa:=by rw[Wn,LkFNeutral.asked,D0];rw[Vp,D0];show D0
  rw[Ti,G,(Baf)[0]?=Awi s];let gl:k=0\/Abk=OQ:=by
   rcases Y with⟨H,_⟩|⟨_,h1,h2,_⟩;·rw[TB,H]
   ·rw[TN,Aqb h2 ug]
  rw[Tc,X,I',anz m n hm G I Z gl C0.1];let y:Baz [AG,(Bnu).2]:=by rw[Te,x,O,_,ac6 m n hm G I Z gl C0.1];rw[ac5 O];show anD I x
  generalize B:Bnu=z at X I' y;let N:T=(l0++Bfx::Hf)++Ctn (Cfc HI i):=by rw[hT];rw[Ti,e,Cfc s (Bnm::i)=(Bnu).2::Cfc (Bnu).1 i];rw[e,B];unfold PyFlat.told;rw[sfH,uk]
  rw[sT]at Q0;let nl:HA l0 (Bfx::Hf)+Ans*2001<=700000:=by rw[su,sT];omega
  let C:=ac8 (st:=Baf) U0;rw[Ti,Y0,Ip (Baf) 0 (Bwi)=Bfg];rw[Y0]at X;rw[UX,ln,Bpk (Bfg) [Dq ((Hf).map D.int)],Dr Bmf Bfg,iS,sr]
  let O0:An (l0.map D.int)<uq:=by rw[sr];unfold uq;omega
  let I0:∀(h a:Nat)(Q o:LI),h<=a->a<=Ah->t3 l h a=g->Ml (Bb (n+21)) [QU,6,Aqd 113 AL Dg (.sl Bf CQ BJ),Rg 2 Cbt,.ext 2 H_] [Bfz,JD 0,JD 1,Cd a,J_,Cd h,x6] (Baf)=DJ (xk l a (J_) (Cd h) (Bgg)) (xW HI (l0++Bfx::Hf)):=by
   intro h a Q o h1 h2 F;let J0:=anF (st:=Baf) (xs:=l) (l:=h) (h:=a);rw[F]at J0;let V:=e_ (cl:=Bb (n+21)) (m:=m) (i:=2) (a:=1) (e:=Cbt) (ρ:=[Bfz,JD 0,JD 1,Cd a,J_,Cd h,Bgg]) (st:=Bfg) Ab Ab;let aa:=anH (ρ:=[Bfz,JD 0,JD 1,Cd a,J_,Cd h,Bgg]) (st:=Bfg) (a:=1) (xs:=Bqi) (v:=Bmf) Ab Ab O0;let L:=anI (cl:=Bb (n+21)) (m:=m) (i:=2) (a:=1) (e:=JE) (ρ:=[Bfz,JD 0,JD 1,Cd a,J_,Cd h,Bgg]) (st:=Ip (Bfg) 1 [DK,Bqi++[Bmf]]) (xs:=Bqi++[Bmf]) (ys:=Cho) Ab Chx Ab (Bx (by rw[su,sr,sr,s0];unfold uq;omega));let P0:Ip (Ip (Bfg) 1 [DK,Bqi++[Bmf]]) 1 [DK,Bqi++[Bmf]++Cho]=xW HI (l0++Bfx::Hf):=by change[Bwi,uR.lst (Bqi++[Bmf]++Cho)]=[Bwi,uR.lst (JX (l0++Bfx::Hf))];rw[xI,tz,uk];rfl
   rw[P0]at L;let c1:Ml (Bb (n+21)) [Fc,Rg 2 Cbt,.ext 2 H_] [Bfz,JD 0,JD 1,Cd a,J_,Cd h,Bgg] (Bfg)=DJ (xk l a (J_) (Cd h) (Bgg)) (xW HI (l0++Bfx::Hf)):=by rw[iP,V];rw[Vt,ln,aa];rw[L];rfl
   rw[iP];rw[Vt,J0,X];show c1
  rcases Y with⟨H,nn,r',V0,Z0,C1,J,ht⟩|⟨H,U,J,ht⟩
  ·subst H;rw[Te,hq,E0,D1,ada (w.trans V0)];let W0:=ac8 (st:=Baf) hq;let X0:y_ (Baf) (.uh l) (Ec (Abl+1))=Dr [AZ,nn] Baf:=W0;let c:P+2+Cji<=Ah:=by let:=Cfw E0;rw[Tt,zH];omega
   let K:=I0 (P+2) (P+2+Cji) q R Ac c (by rw[ac9,E0,J]);rw[Uc,e0,Au (Cn (P+2+Cji))=Abl+2+nn]
   rw[Uc,W,Au (Cn (P+2))=Abl+2]
   rw[Ti,z0,Pg Bnx=Aa];show⟨P+2+Cji,HI,l0++Bfx::Hf,RI 0,RI (P+2),Bgg,?_,DB I' c A i (by rw[<-sdX,E0,<-ht];show H0) C0.2 N nl,AE⟩;rw[<-K,e0,W];unfold xk;rw[UA,sid,C,X0,z0]
  ·let c:P+1+OQ<=Ah:=by let:=Cfw w;rw[Tt,zH];omega
   let K:=I0 (P+1) (P+1+OQ) q R Ac c (by rw[ac9,w,J]);rw[Uc,e0,Au (Cn (P+1+OQ))=Abl+1+Au OQ]
   rw[Uc,W,Au (Cn (P+1))=Abl+1]
   rw[UW,z0,Pg Ey=Af];let tb:=anG Z H;show⟨P+1+OQ,HI,l0++Bfx::Hf,J_,RI (P+1),Bgg,?_,DB I' c A i (by rw[<-sdX,w,<-ht];show H0) C0.2 N nl,AE⟩;rw[<-K,e0,W];unfold xk;rw[UA,sid,C,z0,tb]
def anK(m n:Nat)(K:Afe)(l:Ao)(U:Ah<=16000)(C:Dbg l=Aa):NU (n+22) NY [.uh l] []=JI [Dq,JX [Bop,l]] []:=by
 let t:16001<m:=by let:=K 20 Bye;grind
 cases L:Cff Ah l with
 |none=>grind[PyWqapbv.answers_asked,PyWqapbv.calls]
 |some b=>
  rw[UX,T,b.map Ddt,b,[Ako,Ddt=id,funext anA],List.map_id]
  let C:(PyFlat.atMost 300 b&&Cqs b)=Aa:=by simp_all[PyWqapbv.answers_asked,PyWqapbv.calls]
  let p:Bop l=Ctn (Cfc LkFNeutral.start b):=by simp_all[PyWqapbv.answers,PyWqapbv.calls]
  rw[si]at C;let O:=Cm C.1;let y:sfJ l _ 0 Ad []:=DB vH AE Ah _ Aq C.2 p Aq;let W:=fg (c:=Afx .lt BJ Kw) (λA o=>∃P s B q R c,A=xk l P q R c/\o=xW s B/\sfJ l _ P s B) (λA _=>match uj A 3 with|some (.int z)=>Ah-PM|_=>0) (λr=>∃s q R c,r=DJ (xk l Ah q R c) (xW s (Bop l))) (by
   rintro A o⟨P,s,B,q,R,c,rfl,rfl,M⟩;let H:=anE (st:=xW s B) (xs:=l);rw[Tv,P<Ah]
   ·rw[TN,Pu Are];·let F:Bkd P Ah=Aa:=Db;unfold xk;rw[Vt,H,F]
    ·obtain⟨a,d,i,Q,Y,v,e,j,x⟩:=anJ m n K M h q R c;show Bcm _ e ⟨a,d,i,Q,Y,v,Ab,Ab,j⟩;change Ah-Ahj a<Ah-Ahj P;omega
   ·rw[TB,Bpl];·rw[UW,F,Bkd P Ah=Af];unfold xk;rw[Vt,H,F]
    ·obtain⟨I,N,f,b,u,w,p,k⟩:=M;rw[Vr,P=Ah]
     rw[sh4]at u;let u:=by cases f<;>show u
     rw[Ul,GF u];let p:Bop l=B++[]:=p;rw[ud]at p;rw[TU,s,q,R,c,Asc p]) _ _ ⟨0,Ad,[],Ad,Ad,Ad,Ab,Ab,y⟩ [Cgx,Ah-0<m];obtain⟨s,q,R,c,e⟩:=W;rw[Ti,mk,Io (Bb (n+21)) (.yl 6 BY) [Bfz,Ad,Ad,Ad,Ad,Ad,Ad] []=JI [FX,0] [vB Ad]];rw[Ti,J,Io (Bb (n+21)) Bbz [Bfz,JD 0,Ad,Ad,Ad,Ad,Ad] [vB Ad]=[Dr,FX 1,xW Ad []]];let G:=e9 (cl:=Bb (n+21)) (i:=2) (a:=1) (xs:=JX [Bop,l]) (ρ:=xk l Ah q R c) (st:=xW s (Bop l)) Ab Ab;unfold xk at e G;rw[Ti,g,Bnx=0];rw[TV,g];rw[aja,Ap];simp only[shw,↓mk,↓J,↓e,csAll];rfl
end Core
end
namespace L2
open PySem PySem.Spec PyProof.Rows
abbrev tM:=Sum Bm BG
def xu:tM->BU Eh|.inl k,v=>Value.isInt k v|.inr x,v=>Value.isStrOf x v
def seo(w:World):tM->Bm|.inl k=>hashInt k|.inr x=>hashStr w x
def cz:∀{k:tM}{v:Value},xu k v=Aa->(∃i t,k=Alc i/\v=Bcb i t)\/(∃x t,k=Ccc x/\v=Cig t)|.inl i,v,h=>Bzr t e (Value.isInt_shape (k:=i) (v:=v) h) [AK,AO i t Ab e]|.inr x,v,h=>Bzr t e (Value.isStrOf_shape (x:=x) (v:=v) h) [Bw,AO x t Ab e]
def ae7(i:Int)(t:Tok):xu (AK i) (Aji i)=Aa:=MV xu Value.isInt
def ae8(x:Str)(t:Tok):xu (Bw x) (.str x t)=Aa:=MV xu Value.isStrOf
def ae9(a b:Int):AQ (Alc a:tM) [Alc,b]=(a==b):=by
 rw[Um,a=b];·rw[Uo];simp
 ·rw[Tx,h,¬(Alc a:tM)=Alc b,q,e (Sum.inl.inj q)];rw[OL];show Om [Arl,e]
def afa(a b:Str):AQ (Ccc a:tM) [Ccc,b]=AQ a b:=Aq
def afb(a:Int)(b:Str):AQ (Alc a:tM) [Ccc,b]=Af:=B_ Ag
def afc(a:Str)(b:Int):AQ (Ccc a:tM) [Alc,b]=Af:=B_ Ag
def ye(z:Program)(w:World):PySem.KeyKind z w tM where
 is:=xu
 hash:=seo w
 inj:=λv a b M T=>by
  rw[Ww,cz M,i,t,rfl,x,t,rfl,rfl]
  ·rw[Ww,cz T,j,u,e,y,u,rfl,e];·rw[YB];rw[W]
   ·show Bzd
  ·rw[Ww,cz T,j,u,e,y,u,rfl,e];·show Bzd
   ·rw[YB];rw[W]
 byValue:=λk v h=>by rw[Ww,cz h,i,t,rfl,x,t,rfl,rfl]<;>rfl
 pyHash:=λO h=>by
  rw[Ww,cz O,i,t,rfl,x,t,rfl,rfl];·show wpAny_pyHash_int h
  ·show wpAny_pyHash_str h
 eqBool:=λF O h=>by
  rw[Ww,cz F,i,t,rfl,x,t,rfl,rfl]
  ·rw[Ww,cz O,j,u,rfl,y,u,rfl,rfl];·rw[Tg,ae9];show wpAny_eqBool_int h
   ·rw[Tg,afb];show SeqAt.EqAt.int_str i t y u _ _ _ _ h
  ·rw[Ww,cz O,j,u,rfl,y,u,rfl,rfl];·rw[Tg,afc];show SeqAt.EqAt.str_int x t j u _ _ _ _ h
   ·rw[Tg,afa];show wpAny_eqBool_str h
 «strs»:=λk x t v h=>by
  rw[Ww,cz h,i,u,e,y,u,rfl,e];·show Bzd
  ·rw[YB];subst W;cases v<;>rfl
def afd(z:Program)(w:World)(i:Int)(t:Tok):(ye z w).is (AK i) (Aji i)=Aa:=ae7 i t
def afe(z:Program)(w:World)(x:Str)(t:Tok):(ye z w).is (Bw x) (.str x t)=Aa:=ae8 x t
inductive V where|sD|bl(b:Bool)|int(i:Int)|str(x:Str)|wK(b:Bba UInt8)|sep(b:UInt64)|ref(a:Addr)|ty(n:String)deriving DecidableEq
def RelV:Im V Eh|.sD,u=>u=Bjg|.bl b,u=>u=Bpw b|.int i,u=>∃t,u=Bcb i t|.str x,u=>∃t,u=Cig t|.wK b,u=>∃t,u=Value.bytes b t|.sep b,u=>∃t,u=Value.float b t|.ref a,u=>u=RX|.ty n,u=>u=Bzf n
abbrev sJ:Im Ba BA:=Paired RelV
theorem sJ.length(r:Qr):BC=OM:=Cnl
theorem sJ.get:∀{C:Ba}{W:BA}{i:Nat}{x:V},Qr->Adz=Bi->∃u,W[i]?=BW/\Kl x|_,_,_,_,.nil,e=>Aq|_,_,0,_,.cons r _,e=>Aq|_,_,i+1,x,.cons _ t,e=>by rw[UT,G,z,get (i:=i) (x:=x) t Ag];grind
theorem sJ.set(r:Kl x):∀{C:Ba}{W:BA}(i:Nat),Qr->sJ (C.set i x) (W.set i u)|_,_,_,.nil=>BY|_,_,0,.cons _ t=>Jo r t|_,_,i+1,.cons q t=>Jo q (set r i t)
theorem sJ.append:∀{C O:Ba}{W l:BA},Qr->sJ O l->sJ (C++O) (W++l)|_,_,_,_,.nil,s=>s|_,_,_,_,.cons r t,s=>Jo r (append t s)
theorem sJ.take:∀{C:Ba}{W:BA}(n:Nat),Qr->sJ (C.take n) (W.take n)|_,_,0,_=>BY|_,_,_+1,.nil=>BY|_,_,n+1,.cons r t=>Jo r (sJ.take n t)
theorem sJ.drop:∀{C:Ba}{W:BA}(n:Nat),Qr->sJ (C.drop n) (W.drop n)|_,_,0,r=>r|_,_,_+1,.nil=>BY|_,_,n+1,.cons _ t=>drop n t
theorem sJ.none_of:∀{C:Ba}{W:BA}{i:Nat},Qr->Adz=Ad->W[i]?=Ad:=λ{C W i}r e=>by rw[Xi,G];grind
def uB:Im [Jz,V] EU|some v,some u=>KQ|none,none=>True|_,_=>False
def KV{a:Bq}:[Im,EV a V,EV a Eh]:=Paired λ(p:a×V)(q:a×Value)=>Ax=CG/\RelV BE JU
def kV:tM->V|.inl i=>CI|.inr x=>Cw x
inductive HO where|lst(xs:Ba)|tup(xs:Ba)|dK(kvs:EV tM V)|dT(kvs:EV QT V)|set(S:BU Bm)(n:Nat)|ins(C dx:Addr)(fs:Apf)|own(x:Addr)|xd(fs:Apf)|met(f x:Addr)|ser(lo hi:Int)|ao(o:Obj)(u:HO)|uO(ps:Aae)|ext(φ:JH Ajl)
abbrev Hp:=NC Fx HO
def sU(H:Hp)(a:Addr)(o:HO):Hp:=λb=>Bo (b=a) Ai BX
def ac:sU H a o a=Ai:=Auz sU JO
def ai(h:EW a):sU H a o b=BX:=Auz sU Nw
def kL:sU (HG o) a u=HG u:=by grind[sU]
def aff{H:Hp}(h:AM=Ai)(g:BX=BW)(d:o≠u):a≠b:=Aq
def qu{H:Hp}(h:AM=Ai)(g:BX=Ad):a≠b:=Aq
section
variable(P:Program)(w:World)
def tN(H:Hp)(h:Heap)(a:Addr):JH HO|.lst X=>Cu [AG,X]/\Csj (sJ X i/\OS=Ae [Apm,Adj,Clk])|.tup X=>Cu [AG,X]/\∃i:BA,sJ X i/\IsTup h a Ahg|.dK T=>Bgf/\(a==Aky)=Af/\∃J,KV T J/\Cwm a J|.dT T=>Bgf/\(a==Aky)=Af/\∃X:EV QT (Fx×Eh),Bav (λ(p:List tM×V)(q:List tM×Addr×Value)=>Ax=CG/\H (JU).1=Jh ((Ax).map kV)/\RelV BE (JU).2) T X/\∃o R B,OS=Ai/\Chv/\IC=Arn R/\R.toList=X.map (entryOfKey (Bzv Aoq))/\GW (X.map (·.1))|.set S n=>h.SetOf (intKind P w) a S n|.ins C Y I=>H Y=Ark a/\KN<=BI/\Y≠a/\OS=As [Coc,Y]/\∃M,h.Ns1 Y M/\(∀f,uB (Bkg f) (M f))/\Cud M (I.map (·.1))|.own _=>∃o,OS=Ai|.xd I=>∃M,h.Ns1 a M/\∀f,uB (Bkg f) (M f)|.ser lo A=>∃t u v,OS=Ae [Aqz,Acy,#[Bxc,GU A u,GU 1 v]]|.ao o u=>OS=Ai/\tN H h a u|.uO l=>OS=Bug BM l|.met f x=>OS=Cpn Afd (OX)|.ext g=>g h/\(∃o,OS=Ai)/\∀G z:Ajl,g G->(∀o,G.get? a=Ai->z.get? a=Ai)->g z
def vi(H:Hp)(h:Heap):Al:=∀a o,AM=Ai->tN P w H h a o
end
section
variable{P:Program}{w:World}{H H':Hp}{h h':Heap}{a:Addr}{o:HO}
theorem tN.lt(x:tN P w H h a o):a<GC:=by cases o with|lst X=>rw[Xg,_,_,_,e];show PD|tup X=>obtain⟨_,_,_,p⟩:=x;show p.lt|dK T=>rw[WJ,_,_,_,_,o,_,_,_];show PD|dT T=>rw[WJ,_,_,_,_,o,_,_,_];show PD|set S n=>rw[Xh,o,_,_,_,_];show PD|ins C Y I=>rw[Xg,_,_,e,_];show PD|own y=>rw[Uq,_,e];show PD|xd I=>rw[Xj,_,⟨_,_,_,e,_⟩,_];show PD|ser lo B=>obtain⟨_,_,_,e⟩:=x;show PD|ao A u=>rw[Uq,e,_];show PD|uO l=>show uP (show OS=CU from x)|met f y=>show uP (show OS=CU from x)|ext g=>rw[Xj,_,⟨_,e⟩,_];show PD
def Paired.qv:∀{l:LJ}{L:Eg d},Bav F l L->(∀a b,F a b->G a b)->Bav G l L|_,_,.nil,_=>BY|_,_,.cons r t,f=>Jo (f _ _ r) (qv t f)
def tN.cX(x:tN P w H h a o)(k:∀b u,(b=a\/BX=Ark a)->Js=BW->KS=BW)(Z:∀b,BX=Ark a->Ajr=Ark a)(E:∀b X,BX=Jh X->Ajr=Jh X):tN P w H' h' a o:=by induction o with|lst X=>obtain⟨z,i,n,r,e⟩:=x;rw[TU,z,i,n,r,k _ _ GZ e]|tup X=>rw[Xh,z,i,r,A,c];show Ds z i r A (k _ _ GZ e) c|dK T=>rw[WJ,z,y,J,r,A,R,B,c];show⟨z,y,J,r,A,R,B,k _ _ GZ e,c⟩|dT T=>rw[WJ,z,y,X,r,A,R,B,c];show⟨z,y,X,Brd r λp q z=>Am HI (E _ _ (Hf).1) (Hf).2,A,R,B,k _ _ GZ e,c⟩|set S n=>rw[Xh,A,R,B,t,c];show Ds A R B t (k _ _ GZ e) c|ins C Y I=>obtain⟨d,z,G,e,M,⟨D,R,B,N,c⟩,r⟩:=x;show[BF,Z _ d,z,G,k _ _ GZ e,M,DL D R B (k _ _ (Bw d) N) c,r]|own y=>rw[Uq,A,e];rw[Th,A,k _ _ GZ e]|xd I=>rw[Xj,M,⟨D,R,B,e,c⟩,r];rw[Tp,M,DL D R B (k _ _ GZ e) c,r]|ser lo L=>obtain⟨t,u,v,e⟩:=x;rw[Ts,t,u,v,k _ _ GZ e]|ao A u F=>rw[UR,e];rw[Th,k _ _ GZ e,F q]|uO l=>let e:OS=Bug BM l:=x;change Bxm a=Bug BM l;show k a _ GZ e|met f y=>let e:OS=Cpn Afd (AC y):=x;change Bxm a=Cpn Afd (AC y);show k a _ GZ e|ext g=>rw[Xj,p,⟨o,e⟩,st];rw[Tp,st _ _ p λo q=>k _ _ GZ q,Aj o (k _ _ GZ e),st]
theorem vi.lt(x:R')(e:AM=Ai):a<GC:=(x a o e).lt
theorem vi.fresh(x:R')(e:GC<=a):AM=Ad:=by cases q:AM with|none=>rfl|some u=>rw[Ug,MD (x.lt q) e,Ac]
theorem vi.kept(x:R')(k:∀b u,Js=BW->KS=BW):Atf H h':=HK a o [Bmo,(x a o e),Ag,q,q,Kh q q]
theorem vi.laid(x:R')(k:∀b u,Js=BW->KS=BW)(Y:GC<=a)(G:tN P w (HG o) h' a o):Atf (HG o) h':=Rx u (by
 let f:=x.fresh Y;rw[Td,T,b=a];·subst T;rw[TV,ac];rw[Tr];show G
 ·rw[TV,ai T];show(x b u e).cX (λc v _ q=>k c v q) (λc q=>Biu [Boa,q,f]) λc C q=>Biu [Boa,q,f])
end
def Rd(H:Hp)(a:Addr)(u:HO):Al:=AM=BW\/∃o,AM=Pf u
theorem Rd.of(h:AM=BW):Qv u:=OJ
theorem Rd.ok(r:Qv u)(x:R'):tN P w H h a u:=by
 rcases r with r|⟨o,r⟩;·show x a u r
 ·rw[Tc,_,q,x a _ r];show q
def saG:JH [Jz,HO]|some (.lst _)=>True|some (.dK _)=>True|some (.dT _)=>True|some (.set _ _)=>True|some (.ins _ _ _)=>True|some (.ext _)=>True|_=>False
section
variable{P:Program}{w:World}{H:Hp}{h h':Heap}{x e:Addr}{o':HO}
theorem vi.write(t:R')(m:saG (H x))(Y:e=x\/H e=Ark x)(k:∀b u,EW e->Js=BW->KS=BW)(d:∃u,Bxm e=BW)(G:tN P w (Ei x o') h' x o'):Atf (Ei x o') h':=HM u q (by
 let n:∀c y,H c=Ark y->GJ x:=λc y r z=>by subst z;rw[r]at m;show m
 let N:∀c C,H c=Jh C->GJ x:=λc C r z=>by subst z;rw[r]at m;show m
 rw[Td,T,b=x];·grind[ac]
 ·rw[UI,ai T];rw[Td,A,b=e]
  ·rw[Tq,M,BX=Ark x]
   rw[q]at M;cases M;obtain⟨v,O⟩:=d;rw[Th,v,Aq]
  ·show(t b u q).cX (λc v L r=>k c v ?_ r) (λc r=>Bbb) λc C r=>Bbb
   grind)
end
structure Un(fs ex:Ez)(H H':Hp)(h h':Heap):Al where
 keep:∀b o,Js=Ai->BX=Ad->Aib fs->Aib ex->KS=Ai
 slot:∀b o,Js=Ai->BX=Ad->b∈fs->Aib ex->∃sl,KS=Ae {o with slots:=sl}
 free:∀b o,Js=Ai->BX=Ad->Aib ex->Ajr=Ad
 there:∀b o,Js=Ai->Aib ex->∃o',KS=Ae o'
 vk:∀b xs,BX=Jh xs->Ajr=Jh xs
 uC:∀b o u,BX=Pf u->Ajr=Pf u
 uZ:∀b ps,BX=Acx ps->∃more,Ajr=Acx (ps++more)
section
variable{fs fs' ex ex':List Addr}{H H1 H2:Hp}{h h1 h2 h':Heap}{a x e:Addr}{o:HO}
theorem Un.any(u:Un fs ex H H1 h h1)(q:Js=Ae A)(n:BX=Ad)(O:Aib ex):∃y,h1.get? b=Ae {A with slots:=y}:=by
 rw[Td,T,b∈fs];·show u.slot b A q n T O
 ·rw[Th,A.slots,u.keep b A q n T O]
theorem Un.trans(a:Un fs ex H H1 h h1)(b:Un fs ex H1 H2 h1 h2):Un fs ex H H2 h h2 where
 keep:=λc A q n L O=>b.keep c A (a.keep c A q n L O) (a.free c A q n O) L O
 slot:=λc A q n L O=>by rw[Tc,y,W,a.slot c A q n L O];rw[Tc,S,N,b.slot c _ W (a.free c A q n O) L O];rw[Th,S,N]
 free:=λc A q n O=>[Bzr,t,W,a.there c A q O,b.free c t W (a.free c A q n O) O]
 there:=λc A q O=>[Bzr,t,W,a.there c A q O,b.there c t W O]
 vk:=λc C q=>b.vk c C (a.vk c C q)
 uC:=λc A C q=>b.uC c A C (a.uC c A C q)
 uZ:=λc l q=>by rw[Tc,M,W,a.uZ c l q];rw[Tc,P,N,b.uZ c _ W];rw[Th,M++P,Dcd N]
theorem Un.kept(k:∀b u,Js=BW->KS=BW):Un fs ex H H h h':=[BF,λb A q _ _ _=>k b _ q,λb A q _ _ _=>Ke (k b _ q),λ_ _ _ n _=>n,I_ A q _ [Ke,k b _ q],Kh q q,λ_ _ _ q=>q,LU l q [Bhb,#[]]]
theorem Un.refl:Un fs ex H H h h:=Un.kept [Kh,q,q]
theorem Un.laid(k:∀b u,Js=BW->KS=BW)(Y:GC<=a)(f:AM=Ad):Un fs ex H (HG o) h h' where
 keep:=λb u q _ _ _=>k b u q
 slot:=λb u q _ _ _=>Aj u.slots (k b u q)
 free:=λb u q n _=>Csn [Cmp,(MD (uP q) Y)]
 there:=I_ u q _ [Aj,u,k b u q]
 vk:=HM C q [Biu,Boa q f]
 uC:=I_ u C q [Biu,Boa q f]
 uZ:=HM l q [Aj,#[],Bfr [Boa,q,f] q]
theorem Un.write(m:saG (H x))(Y:e=x\/H e=Ark x)(k:∀b u,EW e->Js=BW->KS=BW)(d:∃u,Bxm e=BW):Un fs ex H (Ei x o) h h':=by
 let O:∀b,BX=Ad->EW x:=HM n z (by subst z;rw[n]at m;show m)
 let T:∀b,BX=Ad->EW e:=HM n z Aq
 let A:∀b u,BX=BW->¬saG (BW)->EW x:=λb u q S z=>Aq
 show[BF,λb u q n _ _=>k b u (T b n) q,λb u q n _ _=>Ke (k b u (T b n) q),λb u q n _=>Bbb,BV b u q _,HM C q [Cmw,A b _ q [Jt,z]],I_ u C q [Cmw,A b _ q [Jt,z]],HM l q [Aj,#[],Bfr [Adp,A b _ q [Jt,z]] q]];grind
theorem Un.mono(u:Un fs ex H H1 h h1)(P:∀b∈fs,b∈fs')(O:∀b∈ex,b∈ex'):Un fs' ex' H H1 h h1:=[BF,λb A q n T Y=>u.keep b _ q n Ag [Jt,Y (O b z)],λ_ _ q n _ Y=>u.any q n [Jt,Y (O _ z)],λb A q n Y=>u.free b _ q n [Jt,Y (O b z)],I_ A q Y (u.there b _ q [Jt,Y (O b z)]),u.vk,u.uC,u.uZ]
end
def vE(h:Heap)(H:Hp):Ez:=[Bkv,Pp GC,a,OC (AM)]
def yf(h:Heap)(H:Hp):Ajl:=PySem.W.hideAll h (vE h H)
def afg(h:Heap)(H:Hp):La (yf h H)=GC:=PySem.W.hideAll_size _ _
def afh(e:Js=Ai)(n:BX=Ad):QN (yf h H) b=Ai:=sge _ e λA=>Cie q (saH.mp A).2
def afi(e:QN (yf h H) b=Ai):Js=Ai/\BX=Ad:=by let D:=Dcj e;rw[Uf,D];cases q:BX with|none=>rfl|some x=>let A:b∈vE h H:=saH.mpr [Bhb,Bsn (uP D)];let z:QN (yf h H) b=Ad:=Dbs A;grind
def skN(g h:Heap)(L:Addr):D_:=Bcc [Pp,GC] λa=>[Bsa,a=L\/OC (QX a)=Aa,Ad,IP OS o (a,o)]
def sX(g h:Heap)(L d:Addr):D_:=Bkv (skN g h L) p [Alr,Ax,d]
structure Mod(K:PySem.W.Frag)(mg:BG->EU)(base:Heap):Al where
 sc_:K.In DU
 glob:Asy
 blt:∃mb,base.Ns Bpr mb/\∀x:BG,x≠Biz->mb x=Bxv
 nolimit:base.NoLimit
structure Cx where
 prog:Program
 w:World
 K:Crr
 mg:BG->EU
 base:Ajl
 A:Around
 N:Dl
 wr:Baq
 xv:Hp
 env:Env
 outer:Ox
 stack:Ox
 ex:Ez
 fn:BU BG
 calm:Bh
 pn:D_
 xe:IZ
def yg(l:Ox):Ez:=Ctj (·.frame)
abbrev Cx.fs(X:Cx):Ez:=yg Awe
def sbw(i:Scope)(x:Str):Al:=Agc x=Fy\/Agc x=Hr\/Agc x=Qa
def Loc(i:Scope)(x:Str):Al:=Agc x=Fy\/Agc x=Hr
def skO(p:Env)(h:Heap)(m:BG->EU)(x:Str)(u:Value):Al:=(Cto=Fy/\m x=BW)\/((Cto=Hr\/Cto=Qa)/\∃c,p.cells.lookup x=AW/\h.IsCell c (BW))
structure Cx.Ok(X:Cx):Al where
 mod:Mod Ar Fp DH
 kind:Cqm=Oh
 glob:X.env.globals=LZ
 blt:X.env.builtins=Bpr
 above:Aup<=Ki
 inj:∀x y c,KO=AW->Baj y=AW->x=y
 has:∀x,(Byc=Hr\/Byc=Qa)->∃c,KO=AW
 sc0:∀x c,Ow=Aa->KO=AW->Aup<=c
 hd:Ji=Aa->X.A.handled=Ad
 frames:X.A.frames=Ae Oc
 u_:Oc=Awe\/(Oc=Di::Awe/\X.env.frame=Ae Ki)
 sbx:∀b∈X.ex,Asz/\∀x c,KO=AW->GJ b
 bs:∀b o,Byf=Ai->Cfq=Ai/\X.xv b=Ad
 wu:X.base.objs.size<=Aup
 saI:∀b o,Byf=Ai->Bxa
 saJ:∀b∈X.ex,Bwz
 aN:Dbt Awe
 vX:∀b∈X.fs,X.xv b=Ad
structure Inv(X:Cx)(pins:D_)(σ:QE [Jz,V])(H:Hp)(s:Shared):Al where
 ok:X.Ok
 os:s.os=X.wr.os
 bare:Bcw s.gens
 base:Un RD Ayz X.xv H X.wr.heap Bg
 loc:∃m,s.heap.Ns Ki m/\∀(i:Nat)(x:Str)(v:V),Mj=Bi->σ[i]?=Apq v->sbw Sq x->∃u,KQ/\skO Di Bg m x u
 cell:∀x c,KO=AW->∃v,s.heap.IsCell c v
 free:H Ki=Ad
 wL:∀x c,KO=AW->H c=Ad
 pin:∀p∈X.pn++IQ,Ev Ax=Bqk/\H Ax=Ad/\Ax≠Ki/\Ax∉RD/\∀v,NQ BE≠FX v
 sv:vi By BD H Bg
 len:Bqe=X.N.length
section
variable{X:Cx}{pins:List (Addr×Obj)}{σ:List (Option V)}{H H':Hp}{s:Shared}{h':Heap}
def Cx.Ok.afj(t:X.Ok)(e:Byf=Ai):Bwz:=λT=>Akv (t.aN.mem T).1
theorem Inv.bs(I:Bu):∀b o,Byf=Ai->HD=Ai/\BX=Ad:=MF [Aj,Biw o (Clw o e).1 (Clw o e).2 (I.ok.afj e) (I.ok.saI b o e),Bpc o (Clw o e).1 (Clw o e).2 (I.ok.saI b o e)]
theorem Inv.bk(I:Bu):∀b o,Byf=Ai->HD=Ai:=MF (I.bs b o e).1
theorem Inv.mod(I:Bu):Mod Ar Fp DH:=I.ok.mod
def Inv.aF(I:Bu):Blp Bg:=I.ok.mod.sc_.keeps I.bk
theorem Inv.nolimit(I:Bu):Crc:=I.ok.mod.nolimit.keeps I.bk
theorem Inv.fr(I:Bu):∃m,Fr DH Ki Bg m:=let⟨m,f,_⟩:=I.loc;AO m f I.bk [Li,Cbl,Coj]
theorem Inv.lt(I:Bu):Ki<AR:=let⟨_,f,_⟩:=I.loc;f.lt
theorem Inv.sz(I:Bu):Aup<=AR:=GN Coj (sby I.lt)
def Inv.afk(I:Bu){a:Addr}(h:AR<=a):a∉RD:=λT=>by rw[Tj,_,o,Z,_,Cgk];show JA (MD (uP Z) (Li I.sz h)) Ac
def Inv.cA(I:Bu):∀x c,KO=AW->GJ Ki:=λx c e z=>by rw[Tj,v,o,Z,j,Avz x e];rw[WP,⟨t,R,B,f,n,_⟩,_];grind
def Inv.aN(I:Bu):Cfu DH Awe:=by
 let A:∀(l:Ox),(∀b∈yg l,b∈RD)->Dbt l->Cfu DH l:=by intro l;induction l with|nil=>intro _ _;trivial|cons p r d=>intro P U;rw[VD,Z,⟨L,o,R,f,h,j⟩,w];let W:L∈RD:=P L (by unfold yg;rw[sc1,R];show zB);rw[Tc,y,e,I.base.slot L o h (I.ok.vX L W) W [Jt,I.ok.saJ L z W]];rw[Tp,Z,Ds L _ R f e j,d (Acb (P b (by unfold yg;rw[sc1,R];show MA T))) w]
 show A Awe [KJ,T,T] I.ok.aN
theorem Inv.stack(I:Bu):Cfu DH Oc:=by
 rw[Y_,R];·rw[e];show I.aN
 ·rw[e];rw[WP,f,_];show .cons [Cth,Aqk] R f ?_ I.aN;show Dbw (Li Cbl Coj)
def Inv.eK(I:Bu):∀b∈Ast,b∈Ki::RD:=Acb (by rw[Y_,R];all_goals grind[yg])
def Inv.kM(I:Bu):∀b∈Ast,BX=Ad:=Acb (by
 rcases FI (I.eK b T)with e|T;·rw[e];show I.free
 ·rw[Tj,_,o,Z,_,Cgk];show I.base.free b o Z (I.ok.vX b T) [Jt,I.ok.saJ b z T])
theorem Inv.step{ch:Ez}(I:Bu)(Y:Cde ((b∈Ayz\/Aup<=b)/\Asz/\(∀x c,KO=AW->GJ b)/\∀p∈X.pn++IQ,Ax≠b))(F:∀b o,Asz->Bwz->Ayk->HD=Ai->BX=Ad->KS=Ai)(M:∀b o,Asz->b∈RD->Ayk->HD=Ai->BX=Ad->∃y,KS=Ae {o with slots:=y})(g:∀b o,Ayk->HD=Ai->BX=Ad->Ajr=Ad)(Q:∀b o,Ayk->HD=Ai->∃t,KS=Ae t)(vk:∀b C,BX=Jh C->Ajr=Jh C)(uC:∀b o u,BX=Pf u->Ajr=Pf u)(uZ:∀b R,BX=Acx R->∃B,Ajr=Acx (R++B))(E:∀m,s.heap.Ns Ki m->h'.Ns Ki m)(sv:vi By BD H' h')(hg:Bcw A):Bhf {s with heap:=h',gens:=A,drawn:=d',toks:=t'}:=by
 let G:∀b o,Cfq=Ai->Asz:=MF (uQ (Bfb));let h:∀b o,Cfq=Ai->Bxa->Ayk:=λb o e O T=>by
  rcases(Y b T).1 with z|z;·show O z
  ·rw[Ug,Bfa z,(Amu)]
 let l0:∀x c,KO=AW->∀v,s.heap.IsCell c v->h'.IsCell c v:=λx c e v⟨o,Z,j⟩=>by
  rw[Tx,a,c∉ch,z,(Y c z).2.2.1 x c e Ab];rw[Td,L,c∈RD];·rw[Tc,y,q,M c o (I.cA x c e) L a Z (Bmp x e)];rw[Ua,q,j]
  ·rw[Tp,o,F c o (I.cA x c e) L a Z (Bmp x e),j]
 show⟨I.ok,I.os,hg,[BF,HF b o e n T O,HF b o e n T O,EA b o e n O,BV b o e O,Rx C (vk b C (I.base.vk b C e)),Pj C (uC b o C (I.base.uC b o C e)),MK R],?_,GX x c,?_,GX x c,AV p hp,sv,Axy⟩;·show F b o (G b o e) T (h b o e O) (Biw o e n T O) (Bpc o e n O)
 ·rw[Tc,y,W,Cju o e n T O];rw[Tc,S,N,M b _ (G b o e) T (h b o e O) W (Bpc o e n O)];rw[Th,S,N]
 ·rw[Tc,t,W,Bym o e O];show g b t (h b o e O) W (Bpc o e n O)
 ·rw[Tc,t,W,Bym o e O];show Q b t (h b o e O) W
 ·rw[Tc,m1,W,I.base.uZ b R e];rw[Tc,P,N,uZ b _ W];rw[Th,m1++P,Dcd N]
 ·rw[WP,f,U];rw[Tp,m,E m f,HF i x v W N J];rw[UT,r,l,U i x v W N J];show HS u r;rcases l with l|⟨k,c,e,z⟩;·rw[TB,l]
  ·rw[TN,AO k c e (l0 x c e _ z)]
 ·rw[Tc,v,z,Avz x e];rw[Th,v,l0 x c e v z]
 ·rw[WP,⟨o,_,_,Z,_⟩,_];show g _ o [GK,(Y _ z).2.1 Ab] Z SU
 ·rw[Tj,v,o,Z,j,Avz x e];show g c o [GK,(Y c z).2.2.1 x c e Ab] Z (Bmp x e)
 ·rw[Tk,e,n,w,D,d,Bjs hp];rw[Tx,a,Ax∉ch,z,(Y Ax z).2.2.2 p hp Ab];rw[TU,F Ax BE w D a e n,g Ax BE a e n,w,D,d]
theorem Inv.un(I:Bu)(u:Un RD [] H H' Bg h')(sv:vi By BD H' h'):Bog H':=by rw[Te,m,⟨o,R,B,Z,r⟩,_,id Bmq];rw[Tc,y,W,u.any Z SU AN];show I.step (ch:=[]) Ag (λb o _ T _ e n=>u.keep b o e n T AN) (λb o _ T _ e n=>u.slot b o e n T AN) (λb o _ e n=>u.free b o e n AN) (Pj _ (u.there b o e AN)) u.vk u.uC u.uZ (λh A=>by obtain⟨t,a,E,f,F⟩:=A;rw[Z]at f;cases f;rw[TU,_,_,_,W,F]) sv Aap
theorem Inv.call(I:Bu)(u:Un (Ast) ch H H' Bg h')(sv:vi By BD H' h')(J:Bcw g')(Y:Cde ((b∈Ayz\/Aup<=b)/\Asz/\(∀x c,KO=AW->GJ b)/\∀p∈X.pn++IQ,Ax≠b)):Bhf {s with heap:=h',gens:=g',drawn:=d',toks:=t'}:=by rw[Te,m,⟨o,R,B,Z,r⟩,_,id Bmq];rw[Tc,y,W,u.any Z SU [Jt,(Y _ z).2.1 Ab]];show I.step Y (λb o W T L e n=>u.keep b o e n [GK,(FI (I.eK b z)).elim W T] L) (λb o _ _ L e n=>u.any e n L) (λb o L e n=>u.free b o e n L) (Pj L (u.there b o e L)) u.vk u.uC u.uZ (λh A=>by obtain⟨t,a,E,f,F⟩:=A;rw[Z]at f;cases f;rw[TU,_,_,_,W,F]) sv J
theorem Inv.turned(I:Bu)(k:∀b o,EW M->HD=Ai->KS=Ai)(f:H M=Ad)(W:M≠Ki)(G:M∈Ayz\/Aup<=M)(z:∀x c,KO=AW->GJ M)(F:∀p∈X.pn++IQ,Ax≠M):Bog H:=by
 show I.step (ch:=[M]) (AV b T) Ag (λb o _ _ L e _=>Ke (k b o Ag e)) Ag Ag Ag Ag Cgy (AV m h) (MK u) Aap;·grind
 ·obtain⟨o,R,B,Z,r⟩:=h;rw[TU,o,_,_,Ag,r]
 ·show Bmo (I.sv b u e) (λc v L q=>k c v ?_ q) q q [Kh,q,q];grind
theorem Inv.tok(I:Bu)(t:Nat):MR H {s with toks:=t}:=I.un Un.refl HC
theorem Inv.kept(I:Bu)(k:∀b u,HD=BW->KS=BW):Bog H:=I.un (Un.kept k) (I.sv.kept k)
theorem Inv.laid{a:Addr}(I:Bu)(k:∀b u,HD=BW->KS=BW)(Y:AR<=a)(G:tN By BD (HG o) h' a o):Bog (HG o):=I.un (Un.laid k Y (Akn Y)) (I.sv.laid k Y G)
theorem Inv.write(I:Bu)(m:saG (H x))(Y:e=x\/H e=Ark x)(k:∀b u,EW e->HD=BW->KS=BW)(d:∃u,Bxm e=BW)(G:tN By BD (Ei x o) h' x o):Bog (Ei x o):=I.un (Un.write m Y k d) (I.sv.write m Y k d G)
theorem Inv.weak(I:Bu)(U:HY=Bqe)(w:∀(i:Nat)v,a[i]?=Apq v->σ[i]?=Apq v):Boc X a H s:=⟨I.ok,I.os,Aap,Cdi,let⟨m,f,b⟩:=I.loc;Am m f (λi x v W N J=>b i x v W (w i v N) J),Cdj,SU,I.wL,I.pin,HC,U.trans Axy⟩
def Inv.qw(I:Bu)(h:∀p∈P,Ev Ax=Bqk/\H Ax=Ad/\Ax≠Ki/\Ax∉RD/\∀v,NQ BE≠FX v):Inv X P σ H s:=⟨I.ok,I.os,Aap,Cdi,Bmq,Cdj,SU,I.wL,Kg ((Ard Y).elim [GK,Clg] (h p)),HC,Axy⟩
def kN{N:Dl}(c:N.Nodup){j:Nat}(a:N[i]?=Bi)(b:N[j]?=Bi):i=j:=by rw[Tc,G,W,Dj a];rw[Tc,z,E,Dj b];show(List.getElem_inj c).mp (W.trans E.symm)
def kO(I:Bu)(hN:X.N.Nodup)(hi:Mj=Bi)(O:Ahw x)(r:KQ)(h:∀s',Boc X (σ.set i Abe) H s'->(∃a,Bot a Agy/\(a=Ki\/KO=Gj))->Q () s')(R:Ow=Aa\/NM=Fy:=by first|show Akr|rw[TN,Ab]|assumption):SM M (Cve x u):=by
 rw[Te,m,f,U,id Bmq];let H0:(Cqm==.class||(Cqm==.module&&Ki !=X.env.globals))=Af:=DY Aqk
 let D0:i<Bqe:=by rw[Axy];show(Dj hi).1
 let cA:=I.cA;let G0:∀{a:Addr}{h':Heap},(∃o,Ev a=Ai/\AM=Ad)->Bot a h'->vi By BD H h':=λ{a h'}ha P b ob e=>by
  rw[XI,_,_,C0];show Bmo (I.sv b ob e) (λc G L q=>DT (P.2 c ?_) q) q q [Kh,q,q];rintro rfl;rw[X'];·rw[TV,C0];rw[Tr]
  ·rw[C0]at L;cases L
 rcases O with Z|Z
 ·show wpAny_storeName_local Z f (Bz h' I0 P) H0;rw[Tk,oL,_,_,J0,_,id f];show h _ ⟨I.ok,I.os,Aap,[BF,HF b o e n T O,HF b o e n T O,Csv,BV b o e O,Cvf,Cvg,Cvh],HV I0 [HF,j,y,S,W,N,J],GX y c,SU,I.wL,JQ,G0 [Am,oL,J0,SU] P,Dbi⟩ [HV,P,Akr];·show Bfe b (uQ (Bfb)) (Biw o e n T O)
  ·rw[Tc,sl,W,Cju o e n T O];rw[Th,sl,Bfe b (uQ (Bfb)) W]
  ·rw[Tc,t,W,Bym o e O];rw[Th,t,Bfe b (uQ (Bfb)) W]
  ·rw[Td,C,j=i];·subst C;rw[hi]at W;cases W;rw[yN D0]at N;cases N;rw[Tp,u,r,FJ Z AY]
   ·rw[zC (uc C)]at N;rw[Te,u',F,q,U j y S W N J];show HS u' F;rcases q with⟨k,e⟩|⟨k,c,e,z⟩;·rw[TB,FY k];let:y≠x:=E_ (C (kN hN W (e▸hi)));simp[this,e]
    ·rw[TN,AO k c e (z.sameBut P (cA y c e))]
  ·rw[Vi,Avz y e];rw[Th,G,z.sameBut P (cA y c e)]
  ·rw[Tk,e,n,w,D,d,Bjs Y];rw[TU,Bfe Ax w e,n,w,D,d]
 ·let l0:Ow=Aa:=by
   rcases R with z|z;·show z
   ·rw[z]at Z;cases Z
  rw[Tc,c,L,I.ok.has x (AK Z)];rw[Vi,Avz x L];show wpAny_storeName_cell Aqk Z L z (Bz h' B P);rw[Te,oc,E0,O0,id z];show h {s with heap:=h'} ⟨I.ok,I.os,Aap,[BF,HF b o e n T O,HF b o e n T O,Csv,BV b o e O,Cvf,Cvg,Cvh],[Am,m,f.sameBut P (uc (cA x c L)),HF j y S W N J],GX y c',SU,I.wL,JQ,G0 [Am,oc,E0,Bmp x L] P,Dbi⟩ [Am,c,P,Bw L];·show Bfe b (uQ (Bfa (Cbw c l0 L))) (Biw o e n T O)
  ·rw[Tc,sl,W,Cju o e n T O];rw[Th,sl,Bfe b (uQ (Bfa (Cbw c l0 L))) W]
  ·rw[Tc,t,W,Bym o e O];rw[Th,t,Bfe b (uQ (Bfa (Cbw c l0 L))) W]
  ·rw[Td,C,j=i];·subst C;rw[hi]at W;cases W;rw[yN D0]at N;cases N;rw[Tp,u,r,Bw [AO,AK Z,c,L,B]]
   ·rw[zC (uc C)]at N;rw[Te,u',F,q,U j y S W N J];show HS u' F;rcases q with q|⟨k,c',e,z'⟩;·rw[TB,q]
    ·rw[TN,AO k c' e (z'.sameBut P ?_)];rintro rfl;show C (kN hN W (I.ok.inj _ _ _ e L▸hi))
  ·rw[Td,g,c'=c];·subst g;rw[Ur,B]
   ·rw[Tc,w2,l,I.cell y c' e];rw[Th,w2,l.sameBut P g]
  ·rw[Tk,e,n,w,D,d,Bjs Y];rw[TU,DT (P.2 Ax ?_) e,n,w,D,d];intro q;rw[q,E0]at e;let q':oc=BE:=GF e;show d G (by rw[<-q'];show O0)
def kP(I:Bu)(c:X.N.Nodup)(B:Mj=Bi)(O:Ahw x)(r:KQ)(h:∀d,Boc X (σ.set i Abe) H d->Q () d)(R:Ow=Aa\/NM=Fy:=by first|show Akr|rw[TN,Ab]|assumption):SM M (Cve x u):=kO I c B O r Ag R
def Inv.afl(I:Bu)(Z:d.os=s.os)(u:Un (Ast) ch H H' Bg Btp)(sv:vi By BD H' Btp)(J:Bcw d.gens)(Y:Cde ((b∈Ayz\/Aup<=b)/\Asz/\(∀x c,KO=AW->GJ b)/\∀p∈X.pn++IQ,Ax≠b)):Bhf d:=by obtain⟨h',A,y,T,t⟩:=d;subst Z;show I.call u sv J Y
end
abbrev XK:=Eh->LC Mx
abbrev St:=QE [Jz,V]
abbrev VK:=LC V
abbrev TE:=Rn St
abbrev TT:=St->Im Hp (Bmi)
abbrev TA:=St->Im Hp (LC Ba)
structure sbz where
 nx:Aio
 rt:VK
 bk:Aio:=Bff
 ct:Aio:=Bff
abbrev TS:=sbz->Aio
def EP(X:Cx)(S:D_)(D:St)(Q:VK)(u:Value)(d:Shared):Al:=∃v M,QC M d/\KQ/\Q v M
def TP(X:Cx)(S:D_)(D:St)(Q:Bmi)(b:Bool)(d:Shared):Al:=∃M,QC M d/\Q b M
def AP(X:Cx)(S:D_)(D:St)(Q:LC Ba)(W:BA)(d:Shared):Al:=∃J M,QC M d/\Ku J/\Q J M
def SP(X:Cx)(S:D_)(D:sbz)(f:Flow)(d:Shared):Al:=match f with|.next=>∃a M,SA a M d/\D.nx a M|.brk=>∃a M,SA a M d/\D.bk a M|.cont=>∃a M,SA a M d/\D.ct a M|.ret u=>∃v a M,SA a M d/\KQ/\D.rt v M
def PE(X:Cx)(e:Expr)(t:TE):Al:=∀(S:D_)(s:Shared)(D:St)(H:Hp)(Q:VK),Eo->t D H Q->FM (Bsk) (EP X S D Q)
def PT(X:Cx)(e:Expr)(t:TT):Al:=Dae Bmi (Eo->t D H Q->FM (Clx e (Bsk)) (TP X S D Q))
def PW(X:Cx)(e:Expr)(t:TT):Al:=∀(c:Sem Eh)(S:D_)(s:Shared)(D:St)(H:Hp)(Q:Bmi),Eo->t D H Q->FM (Clx e c) (TP X S D Q)
theorem PW.pt(h:PW X e t):PT X e t:=h _
def PA(X:Cx)(R:Hs)(t:TA):Al:=∀(P:Pos)(S:D_)(s:Shared)(D:St)(H:Hp)(Q:LC Ba),Eo->t D H Q->FM (spliced (Avh P (Lb R))) (AP X S D Q)
def PS(X:Cx)(st:Stmt)(t:TS):Al:=Czg (SA A H s->t D A H->FM (exec st Di) (SP X S D))
def vm(X:Cx)(st:Acz)(t:TS):Al:=Czg (SA A H s->t D A H->FM (execs st Di) (SP X S D))
def dQ{o:Bzt J}(h:SM M t)(H:∀a s,Q a s->o a s):EK M A t o E:=OO h H _ _ x x
section
variable{X:Cx}
def asP(M:DF a L)(T:DF b O){D:St}{R:V->LC V}(I:Eo)(h:L D H λx n=>O D n λy j=>R x y j){f:Eh->Eh->Sem J}(E:∀v u B x y j,QC j B->Akb->OZ->R x y j->RF (f v u) Q B):FM (Du a) (λv F=>RF [Du,b] (λu C=>RF (f v u) Q C) F):=by show Big (M S s D H _ I h) v m;show Jf (T S m D n _ A U) λu B⟨y,j,G,P,q⟩=>?_;show E v u B x y j G g P q
def sgf(i:Nat):TE:=λD H Q=>∃v,D[i]?=Apq v/\Ov v
def tC(v:V):TE:=LU H Q [Ov,v]
def afm{P:Pos}(A:Mj=Bi)(O:sbw Sq x)(j:Gu=Af:=by decide)(G:(x==(Cqo:BG))=Af:=by decide):Bht [NW,P]:=by
 rw[UZ];rw[Ut,v,e,h];rw[WP,f,U];rw[UT,r,l,U i x v A e O];let R:EP ..:=Lv v I r h;rcases l with⟨Z,B⟩|⟨Z,c,L,a⟩;·show Cjc (sgg Aqk Z f B R) j
 ·rw[Yf];·show Cjc (wpAny_loadName_cell Aqk Z L a R) j
  ·show Cjc (wpAny_loadName_free Aqk Z L a R G) j
def kQ:[Ef,Bja OU s,tC OU]:=λ_ _ _ H _ I h=>wpAny_Constant_int [Bds,CI,h]
def afn:[Ef,Bja (.bool b) s,tC (Mz)]:=λ_ _ _ H _ I h=>Constant_bool [DP,Mz,H,I,h]
def qz:[Ef,Bja BM s,tC Bt]:=λ_ _ _ H _ I h=>Constant_none [DP,Bt,H,I,h]
def qA:[Ef,Bja (Cw x) s,tC (Cw x)]:=λ_ _ _ H _ I h=>Dcv [Bds,Cw x,h]
def Gl(X:Cx)(x:Str):Al:=Byc=Dcb
def qB{D:St}(I:Eo)(J:Ii)(A:ID=BW)(h:Q u s)(j:Gu=Af:=by decide):Bik (Du (NW P)) Q E:=sgh Aqk J (Calls.loadGlobal_global [Eb,Civ,Cqe I] A h) j
def f7{E:IZ}{D:St}{P:Pos}(I:Eo)(J:Ii)(A:ID=Ad)(O:Bxv=BW)(h:Q u s)(f:x≠Biz:=by decide)(j:Gu=Af:=by decide):Bik (Du (NW P)) Q E:=by obtain⟨M,G,z⟩:=I.mod.blt;show sgh Aqk J (Calls.loadGlobal_builtin [Eb,Civ,Cqe I] A [Eb,I.ok.blt,G.keeps I.bk] (DT (z x f) O) h) j
def qC(J:Ii)(A:ID=BW)(r:KQ)(j:Gu=Af:=by decide):Ef Ayc (tC v):=λ_ _ _ H _ I h=>qB I J A [Lv,v,I,r,h] j
variable{a b:Expr}{ta tb:TE}{pos:Pos}
def tB(t:TE):TT:=λD H Q=>t D H λx n=>∃c,x=Ff c/\Q c n
def afo(h:DF e t)(Y:∀c,Clx e c=(do let v<-c;standAt e.pos;holding [v] (truthy v)):=by intro _;rfl):PT X e (tB t):=by rw[Xe,D,Q,B];show isTrue_plain (Big (h _ s _ H _ I B) v m) (Y _);rw[VD,d,rfl,q];cases g;show zD [HV,A,q]
variable{tA tB':TT}{sX:List Expr}
def skP(t u:TT):TT:=λD H Q=>t D H λc n=>[Bo,c=Aa,u D n Q,Q Af n]
def tOr(t u:TT):TT:=λD H Q=>t D H λc n=>[Bo,c=Aa,Q Aa n,u D n Q]
def skQ(t:TT):TT:=λD H Q=>t D H λc n=>Q (! c) n
def afp(M:PT X a tA):PW X (Ade Hi Bv) tA:=by intro w S s D H Q I h;show isTrue_and [Cr,M S s D H Q I h,GX c m];cases c with|true=>show isTrue_and_nil e|false=>show e
def afq(M:PT X a tA):PW X (Adn Hi Bv) tA:=by intro w S s D H Q I h;show isTrue_or [Cr,M _ s _ H Q I h,GX c m];grind[isTrue_or_nil]
def afr(M:PT X a tA)(T:PW X (Ade (b::sX) Bv) tB'):PW X (Ade (a::b::sX) Bv) (skP tA tB'):=by intro w S s D H Q I h;show isTrue_and (Cgg (M _ s _ H _ I h) c m);cases c with|true=>show T _ _ _ _ _ Q A U|false=>rw[Ua,A,U]
def afs(M:PT X a tA)(T:PW X (Adn (b::sX) Bv) tB'):PW X (Adn (a::b::sX) Bv) (tOr tA tB'):=by intro w S s D H Q I h;show isTrue_or (Cgg (M _ s _ H _ I h) c m);cases c with|true=>rw[Ua,A,U]|false=>show T _ _ _ _ _ Q A U
def aft(M:PT X a tA):PT X (Bqm .Not Bv) (skQ tA):=Bpu (isTrue_not (M S s D H (λc n=>Q (! c) n) I h))
def skR(ta tb:TE):TE:=λD H Q=>ta D H λx n=>∃c,x=Ff c/\[Bo,c=Aa,tb D n Q,Q (Bzi) n]
def skS(ta tb:TE):TE:=λD H Q=>ta D H λx n=>∃c,x=Ff c/\[Bo,c=Aa,Q (Chc) n,tb D n Q]
def skT(ta:TE):TE:=λD H Q=>ta D H λx n=>∃c,x=Ff c/\Q (Ed (! c)) n
def qD(h:DF a t):DF (.BoolOp J Hi Bv) t:=λS s D H Q I Y=>BoolOp_one (h S s D H Q I Y)
def afu(M:Akc)(T:Atl (Ade (b::sX) Bv)):[Ef,Ade (a::b::sX) Bv,skR ta tb]:=by rw[UZ];show BoolOp_and (Big (M _ s _ H _ I h) v m);rw[VD,c,rfl,U];cases g;show zD ?_;cases c with|true=>show T _ _ _ _ Q A U|false=>show DP Bel _ A U
def afv(M:Akc)(T:Atl (Adn (b::sX) Bv)):[Ef,Adn (a::b::sX) Bv,skS ta tb]:=by rw[UZ];show BoolOp_or (Big (M S s D H _ I h) v m);rw[VD,c,rfl,U];cases g;show zD ?_;cases c with|false=>show T S m D n Q A U|true=>show DP Chc n A U
def afw(M:Akc):[Ef,Bqm .Not Bv,skT ta]:=by rw[UZ];show UnaryOp_ (Big (M _ s _ H _ I h) v m);rw[VD,c,rfl,U];cases g;show not_of (zD [DP,Bel,_,A,U])
def tIf(t:TT)(ta tb:TE):TE:=λD H Q=>t D H λc n=>[Bo,c=Aa,ta D n Q,tb D n Q]
def afx(L:PT X c tA)(M:Akc)(T:Atl b):[Ef,.IfExp c a b Bv,tIf tA ta tb]:=by rw[UZ];show wpAny_IfExp (Cgg (L _ s _ H _ I h) d m);cases d with|true=>show M _ _ _ _ Q A U|false=>show T _ _ _ _ Q A U
end
def vY(K:PySem.W.Frag)(H:Hp)(a:Addr)(C:Ba):Al:=Qv (Fo)\/Cqc (Agn a=Ai/\Aea=DN Adj/\Cdk=Ad/\IC=Brw i/\Cu i.size/\sJ C Cad)
def vZ(K:PySem.W.Frag)(H:Hp)(a:Addr)(C:Ba):Al:=Qv (KG)\/Cqc (Agn a=Ai/\Aea=Adm/\IC=Brw i/\Cu i.size/\sJ C Cad)
def skU:NC Eh V|.none=>Ae Bt|.bool b=>As Mz|.int i _=>Dv i|.str x _=>Lm x|.bytes b _=>As (.wK b)|.float b _=>As (.sep b)|.ref a=>Ex a|.type n=>As (.ty n)|_=>none
theorem RelV.abs(r:Kl x):skU u=Bi:=by cases x with|sD=>rw[Uj];rfl|bl _=>rw[Uj];rfl|int _=>rw[VN,t];rfl|str _=>rw[VN,t];rfl|wK _=>rw[VN,t];rfl|sep _=>rw[VN,t];rfl|ref _=>rw[Uj];rfl|ty _=>rw[Uj];rfl
theorem RelV.inj(r:Kl x)(q:OZ):x=y:=GF (r.abs.symm.trans q.abs)
theorem sJ.inj:∀{C O:Ba}{W:BA},Qr->Ku O->C=O|_,_,_,.nil,.nil=>rfl|_,_,_,.cons r t,.cons F d=>Hy Cwp (sJ.inj t d)
section
variable{X:Cx}{pins:List (Addr×Obj)}{σ:St}{H:Hp}{s:Shared}{a:Addr}{xs ys:List V}
theorem vY.of{K:PySem.W.Frag}(h:AM=Bnb):Pl a xs:=AK (OJ)
theorem vZ.of{K:PySem.W.Frag}(h:AM=Jh xs):NS K xs:=AK (OJ)
theorem Inv.list(I:Bu)(h:vY Ar H a xs):∃i:BA,sJ xs i/\PlainL Bg a Ahg/\Cu Bbn:=by
 rcases h with h|⟨o,i,n,Z,L,j,P,B,r⟩;·rw[Tk,z,i,n,r,e,h.ok HC];rw[Ts,_,r,Ds _ n e Ab Ab Ab,z]
 ·show Cmu r [Ds,o,n,I.aF a o Z,L,j,AE];rw[Xi,e];grind
theorem Inv.tuple(I:Bu)(h:NS Ar xs):∃i:BA,sJ xs i/\IsTup Bg a Ahg/\Cu Bbn:=by
 rcases h with h|⟨o,i,n,Z,L,P,B,r⟩;·rw[Tj,z,i,r,p,h.ok HC];grind
 ·show Cmu r [DL,o,I.aF a o Z,L,n,AE];rw[Xi,e];grind
def Inv.qE(I:Bu)(h:vY Ar H a xs)(g:vY Ar H a ys):xs=ys:=by
 rw[VB,i,r,⟨o,n,e,_,_,d⟩,_,h];rw[VB,b,F,⟨t,l,D,_,_,y⟩,_,g];rw[e]at D;cases D;let:i=b:=Aq
 rw[VF];show Cwp
def Inv.qF(I:Bu)(h:NS Ar xs)(g:NS Ar ys):xs=ys:=by
 rw[Vy,i,r,⟨o,e,_,n,d⟩,_,h];rw[Vy,b,F,⟨t,D,_,l,y⟩,_,g];rw[e]at D;cases D;rw[d]at y;injection y with A _;let:i=b:=Byp [Dfg,A]
 rw[VF];show Cwp
end
abbrev Cx.zE(X:Cx)(E:IZ):Cx:={X with xe:=E}
abbrev Cx.zF(X:Cx):Cx:=X.zE Bff
theorem Cx.Ok.zE{X:Cx}(t:X.Ok)(E:IZ):(Cdl).Ok:=⟨t.mod,t.kind,t.glob,t.blt,t.above,t.inj,t.has,t.sc0,t.hd,Ahv t,t.u_,t.sbx,t.bs,t.wu,t.saI,t.saJ,t.aN,t.vX⟩
def Cx.Ok.cC{X:Cx}(t:(Cdl).Ok):X.Ok:=⟨t.mod,t.kind,t.glob,t.blt,t.above,t.inj,t.has,t.sc0,t.hd,Ahv t,t.u_,t.sbx,t.bs,t.wu,t.saI,t.saJ,t.aN,t.vX⟩
section
variable{X:Cx}{pins:List (Addr×Obj)}{σ:St}{H:Hp}{s:Shared}{E:Value->Shared->Prop}
theorem Inv.zE(I:Bu)(E:IZ):Boc (Cdl) σ H s:=⟨I.ok.zE E,I.os,Aap,Cdi,Bmq,Cdj,SU,I.wL,I.pin,HC,Axy⟩
def Inv.cC(I:Boc (Cdl) σ H s):Bu:=⟨I.ok.cC,I.os,Aap,Cdi,Bmq,Cdj,SU,I.wL,I.pin,HC,Axy⟩
def SP.cC(h:SP (Cdl) IQ D f d):SP X IQ D f d:=by cases f with|next=>rw[VP,a,M,I,q];rw[Ts,_,_,I.cC,q]|brk=>rw[VP,a,M,I,q];rw[Ts,_,_,I.cC,q]|cont=>rw[VP,a,M,I,q];rw[Ts,_,_,I.cC,q]|ret u=>obtain⟨v,a,M,I,r,q⟩:=h;show Ds v _ _ I.cC r q
theorem PE.zF(h:PE X.zF e t):DF e t:=λpins s σ H Q I Y=>OO (h _ s _ H Q (I.zE _) Y) (λ_ _⟨v,M,k,r,q⟩=>DL v _ k.cC r q) _ _ z [Sv,z]
theorem PT.zF(h:PT X.zF e t):PT X e t:=λpins s σ H Q I Y=>OO (h _ s _ H Q (I.zE _) Y) (λ_ _⟨M,k,q⟩=>HV k.cC q) _ _ z [Sv,z]
theorem vm.zF{st:Acz}(h:vm X.zF st t):vm X st t:=λpins s σ H D I Y=>OO (h IQ s σ H D (I.zE _) Y) (Kh q q.cC) _ _ z [Sv,z]
end
section
variable{X:Cx}{st:Stmt}{sX:List Stmt}{t u:TS}{e:Expr}{te:TE}{pos:Pos}
def skV:TS:=λD A H=>Ben H
def skW(t u:TS):TS:=λD A H=>t {D with nx:=u D} A H
def ir:vm X [] skV:=λ_ _ D H _ I h=>Cqz [AO,D,H,I,h]
def iu(G:ML st t)(z:vm X sX u):vm X (st::sX) (skW t u):=by rw[Vg,A,D];show sgi [Cr,G _ s _ H _ I h,Bz f m q];cases f with|next=>obtain⟨a,M,k,q⟩:=q;show z _ _ _ _ D k q|ret v=>show q|brk=>show q|cont=>show q
theorem Inv.quiet{D:St}(I:Eo):interactive Di=Af:=MV interactive Aqk
def skX(te:TE):TS:=λD A H=>te A H λ_ n=>Ben n
def iv(Y:Bhe e)(P:Cez e Ad Bzy=Nn:=by rfl):ML (.Expr e Bv) (skX te):=by rw[Vg,B,D];show wpAny_Expr_any [Cr,Y _ s _ H _ I h,λv m⟨x,n,A,_,U⟩=>Ky _ A U] I.quiet P
def skY(te:TE):TS:=λD A H=>te A H D.rt
def afy(Y:Bhe e):ML (Ceb (Ae e) Bv) (skY te):=by rw[Vg,B,D];show sgj [Cr,Y _ s _ H _ I h,Cft m [Ds,x,_,_,A,g,U]]
def skZ(c:TT)(t u:TS):TS:=λD A H=>c A H [KW,n,[Bo,b=Aa,t D A n,u D A n]]
def afz(L:PT X c k)(M:vm X a t)(T:vm X b u):ML (.If c a b Bv) (skZ k t u):=by rw[Vg,B,D];show wpAny_If (Cgg (L S s B H _ I h) d m);cases d with|true=>show M S m B n D A U|false=>show T S m B n D A U
end
abbrev TG:=V->St->Im Hp (Aio)
abbrev sc2:=Ba->St->Im Hp (Aio)
def PG(X:Cx)(T:Expr)(t:TG):Al:=∀(S:D_)(s:Shared)(D:St)(H:Hp)(v:V)(u:Value)(Q:Aio),Eo->KQ->t v D H Q->FM (assign T Di u) [KJ,d,∃a M,SA a M d/\Q a M]
def ses(X:Cx)(c:Hs)(t:sc2):Al:=∀(S:D_)(s:Shared)(D:St)(H:Hp)(J:Ba)(W:BA)(Q:Aio),Eo->Ku J->t J D H Q->FM (assignInOrder ((assignEach c X.env).map (·.2)) W) [KJ,d,∃a M,SA a M d/\Q a M]
abbrev sgk:=V->Rn V
def siI(X:Cx)(J:Operator)(t:sgk):Al:=Dgo (Eo->Akb->OZ->t x y H Q->FM (Cwq v u) (EP X S D Q))
section
variable{X:Cx}{pos:Pos}
def yO(i:Nat):TG:=λv D H Q=>Jn (D.set i Abe)
def kR(c:X.N.Nodup)(A:Mj=Bi)(O:Ahw x)(R:Ow=Aa\/NM=Fy:=by first|show Akr|rw[TN,Ab]|assumption):PG X (NW Bv) (yO i):=by intro S s D H v u Q I r h;show Ddl (kP I c A O r (λd k=>Ky H k h) R)
def sgl:sc2:=λJ D H Q=>J=[]/\Ov D
def sc3(t:TG)(u:sc2):sc2:=λJ D H Q=>∃v r,J=v::r/\t v D H λa M=>u r a M Q
def afA:ses X [] sgl:=by intro S s D H J W Q I r h;rw[UJ,e,h];rw[Uo];rw[Uj];show assignInOrder_nil [AO,D,H,I,h]
def qG(G:PG X e t)(z:ses X R u)(P:Bp [Che,(e::R)] Ccv=assign e Di::Bp [Che,R] Ccv:=by rfl):ses X (e::R) (sc3 t u):=by intro S s D H J B Q I r h;rw[VP,v,b,W,h];subst W;cases r with|cons r d=>rw[P];show assignInOrder_cons [Cr,G _ s _ H _ _ _ I r h,λ_ m⟨C,n,A,U⟩=>?_];show z _ _ _ _ _ _ Q A d U
def seu(K:PySem.W.Frag)(n:Nat)(t:sc2):TG:=λv D H Q=>∃a C,v=Be/\NS K C/\BC=n/\t C D H Q
def afB{k:Nat}(L:Ji=Aa)(h:ses X R t)(f:An [Che,R]=n:=by rfl)(A:(Che R).findIdx? Aci=Ad:=by rfl):PG X (Anb R k Bv) (seu Ar n t):=by intro S s D H v u Q I r Y;obtain⟨a,C,W,Z,U,Y⟩:=Y;subst W;rw[Uj];rw[Vy,i,F,E,B,Z];show assign_Tuple_tuple ND E (by simp[f,<-U,Axo]) A [AV,g,O];show h _ _ _ H _ _ Q (I.kept (t':=s.toks) [MF,O b o (uQ (PD)) e]) Ag Y
def siJ(T:TE)(g:TG):TS:=λD A H=>T A H λx n=>g x A n D.nx
def kS(c:X.N.Nodup)(C:Mj=Bi)(O:Ahw x)(Y:DF e T)(P:Aab e [NW,l] Bzy=Nn:=by rfl)(R:Ow=Aa\/NM=Fy:=by first|show Akr|rw[TN,Ab]|assumption):ML (Adc [NW l] e Bv) (siJ T (yO i)):=by rw[Vg,E,D];show wpAny_Assign_Name [Cr,Y S s E H _ I h,λv m⟨y,n,A,g,U⟩=>?_] P;show kP A c C O g (λB G=>Ky n G U) R
def sk_(i:Nat)(T:TE)(b:sgk):TS:=λD A H=>∃x,A[i]?=As Bi/\T A H λy n=>b x y n λz j=>D.nx (MS (Ae z)) j
def afC(F:X.N.Nodup)(E:Mj=Bi)(O:Ahw x)(Y:Bhe e)(Q:siI X J b)(R:Ow=Aa\/NM=Fy:=by first|show Akr|rw[TN,Ab]|assumption):ML (.AugAssign (NW l0) J e Bv) (sk_ i te b):=by
 rw[Vg,σ,D];rw[Ut,v,W,h];rw[WP,f,U];let d:sbw Sq x:=by rcases O with k|k;rw[TB,k];rw[Uv,AK k]
 rw[UT,r,l,U i x v E W d];show wpAny_AugAssign_Name ?_;let t:FM (Bsk) (λw C=>RF [Cwq,u,w] (λr o=>RF [Cve,x,r] (Ej (SP X S D .next)) o) C):=by show Jf (Y _ s _ H _ I h) λw s1⟨y,n,A,g,q⟩=>?_;show Jf (Q _ _ _ _ v y u w _ A r g q) λz B⟨_,j,G,P,T⟩=>?_;show kP G F E O P (λN p=>Ky _ p T) R
 rcases l with⟨Z,M⟩|⟨Z,c,L,a⟩;·show sgg Aqk Z f M t
 ·rw[Yf];·show wpAny_loadName_cell Aqk Z L a t
  ·rcases O with k|k;·let:NM=CU:=Z;grind
   ·let:NM=CU:=Z;grind
def ipI(f:Bm->Bm->Bm):sgk:=λx y H Q=>∃i j,x=CI/\y=EC/\Jn [Ec,f i j]
def afD:siI X .Add (ipI [Mv,i+j]):=by intro S s D H x y v u Q I g P h;obtain⟨i,j,W,N,q⟩:=h;subst W;subst N;rw[WW,t,rfl];rw[YI,d];show iadd_int Bgt
end
section
variable{X:Cx}{pos:Pos}
def sk0(c:TT)(O:TS):TS:=λD A H=>∃W:Aw->Aio,(∃m,W m A H)/\∀m A H,W m A H->c A H [KW,n,[Gz,b=Aa,∃N:Aio,(∀a M,N a M->∃h,h<m/\W h a M)/\O Czc A n,Ben n]]
def afE(Y:Bph GT Di Agg)(L:PT X c k)(T:vm X j O):ML (.While c j [] Bv) (sk0 k O):=by
 rw[Vg,g,D];rw[Ut,W,⟨Z,w⟩,i];show wpAny_While (codeAny_whileLoop (λn d=>∃a M,Inv X _ a M d/\W n a M) ?_ _ [Ky,H,I,w]);rintro n m⟨C,P,A,J⟩;show saK Y [Cr,L _ _ _ _ _ A (i n _ _ J),λb B⟨Q,G,R⟩=>?_];cases b with
 |true=>obtain⟨N,U,R⟩:=R;show saK Y [Cr,T _ _ _ _ _ G R,Bz f e t];cases f with|next=>obtain⟨l,E,p,F⟩:=t;grind|cont=>obtain⟨l,E,p,F⟩:=t;grind|brk=>show t|ret v=>show t
 |false=>show Cqz [Ky,_,G,R]
end
structure It where
 go:LC Aw
 sc4:Aw->Hp->LC V
 stop:LC Aw
def wM(X:Cx)(S:D_)(H:Hp)(b:Addr):Al:=BX=Ad/\Asz/\Bwz/\(b∈Ayz\/Aup<=b)/\(∀x c,KO=AW->GJ b)/\∀p∈X.pn++S,Ax≠b
def Inv.f8{D:St}{b:Addr}(I:Eo)(T:AR<=b)(f:M b=Ad):wM X S M b:=by
 show[Ds,f,saL (MD I.lt T),I.afk T,Bw (Li I.sz T),BV x c e z,Bz p Y z];·rw[Tc,v,q,Avz x e];rw[Ug,MD q.lt [Cti,z],(Amu)]
 ·rw[Ug,MD (uP (Bjs Y).1) [Cti,z],(Amu)]
structure yh(P:Program)(w:World)(K:PySem.W.Frag)(tg:Expr)(J:It)(fp:Ez)(it:Addr)(tn:Im Aw Ajl):Al where
 mem:it∈fp
 obj:∀i h,tn i h->Cdf (∃o,Js=Ai/\∀v,IC≠FX v)
 keep:∀i h h',tn i h->(Cdf (∀o,Js=Ai->KS=Ai))->tn i h'
 item:∀(X:Cx),By=P->BD=w->Ar=K->Ji=Aa->Cyp IZ (Bu->(Cdf (wM X IQ H b))->tn i Bg->J.go i H->EK (Bib P) GT (Blq (Bmw)) (λr s1=>∃u,r=BW/\EQ (Bib P) GT [Csq,tg,(Bmw),u] [KJ,s2,∃x H',Bhf s2/\Kl x/\J.sc4 i H x H'/\tn (i+1) s2.heap/\Cdf (Ajr=Ad)] E s1) E)
 done:∀(X:Cx),By=P->BD=w->Ar=K->Ji=Aa->Cyp IZ (Bu->(Cdf (wM X IQ H b))->tn i Bg->J.stop i H->EK (Bib P) GT (Blq (Bmw)) (λr s1=>r=Ad/\MR H s1) E)
 self:∀(A:Around)(i:Nat)(s:Shared)(Q:IZ)(E:IZ),tn i Bg->Q (Bmw) s->SM (Bib P) (Bum (Bmw))
abbrev TI:=St->Im Hp (LC It)
def sgm(X:Cx)(S:D_)(D:St)(w:Expr)(R:LC It)(i:Value)(B:Shared):Al:=∃(I:Addr)(A:Ez)(E:Im Aw Ajl)(J:It)(M:Hp),i=AC I/\QC M B/\yh By BD Ar w J A I E/\E 0 B.heap/\(Ra (wM X S M b))/\R J M
def PI(X:Cx)(w Z:Expr)(l:TI):Al:=∀(S:D_)(s:Shared)(D:St)(H:Hp)(R:LC It),Eo->l D H R->FM (Du Z) (λv m=>RF [Bum,v] (sgm X S D w R) m)
def eL(Z:Ev I=Ai)(L:Aea=DN n)(j:IC=Qy J)(f:Akm [Oa,Rj,Cpp,Cya,Cqi,Cpb,Cpl] n=Af)(H:Q () s):SM M (Csq w (AC I) u):=by unfold letOwnedTupleGo;cases w<;>first|rfl|(cases u<;>first|show Fv H|(rw[To,wpAny_load Z ?_];rw[L,j];change SM M (Iz ((Akm [Oa,Rj,Cpp,Cya,Cqi,Cpb,Cpl] n&&J[0]?==As [Acu,_])=Aa) _ _);rw[AF (by rw[UH];rw[f,vG]at h;rw[Tf])];show Fv H))
def sev(K:PySem.W.Frag)(a:Addr):It:=[Bfq,H,∃C x,Pl a C/\Adz=Bi,λi H x M=>M=H/\∀C,Pl a C->Adz=Bi,H,∃C,Pl a C/\BC<=i]
def sew(K:PySem.W.Frag)(a:Addr):It:=[Bfq,H,∃C x,NS K C/\Adz=Bi,λi H x M=>M=H/\∀C,NS K C->Adz=Bi,H,∃C,NS K C/\BC<=i]
def sgn(lo:Int)(n:Nat):It:=[Bfq,_,i<n,λi H x M=>M=H/\x=Ec (lo+i),_,n<=i]
def afF{K:PySem.W.Frag}(a M:Addr):yh P w K tg (sev K a) [M] M (Abw (h.IsListIter M a i))where
 mem:=AY
 obj:=λi h st b T=>by
  rw[Tq,e,b=M]
  rw[Xz,o,c,d];grind
 keep:=λi h g st k=>st.at λo e=>k _ AN o e
 item:=by intro X q Y m L i S s D H E I R st J;subst q Y m;obtain⟨C,x,Z,O⟩:=J;rw[VB,r,f,p,B,Z];rw[UT,F,t,Cim];rw[TZ,n,G,y,N,z,j,R M AN];show wpAny_pyNext_list_item st Cjv (x:=u) Ag [Bz,g,W,U];let A:=Cew (Pj T [Mh,b,T,e]) n N z j;rw[Tj,o,e,c,d,id W];rw[Vu,u,eL e c d Em [BF,x,H,A,t,Q_ (λys Q=>DR (I.qE Q Z)),W,Acb (R b T).1]]
 done:=by intro X q Y m L i S s D H E I R st J;subst q Y m;obtain⟨C,Z,O⟩:=J;rw[VB,r,f,p,B,Z];rw[TZ,n,G,y,N,z,j,R M AN];let v:=f.length;show wpAny_pyNext_list_end ND st Cjv Dem λg l=>Bgq (Pj T (l b o T e)) n N z j
 self:=λ_ _ _ _ _ st h=>wpAny_pyIter_listiter st h
def afG{K:PySem.W.Frag}(a M:Addr):yh P w K tg (sew K a) [M] M (Abw (h.IsTupleIter M a i))where
 mem:=AY
 obj:=λi h st b T=>by
  rw[Tq,e,b=M]
  rw[Xz,o,c,d];grind
 keep:=λi h g st k=>st.at λo e=>k _ AN o e
 item:=by intro X q Y m L i S s D H E I R st J;subst q Y m;obtain⟨C,x,Z,O⟩:=J;rw[Vy,W,f,p,B,Z];rw[UT,F,t,Cim];rw[TZ,n,G,y,N,z,j,R M AN];show wpAny_pyNext_tuple_item st (Dbk a _) (x:=u) Ag [Bz,g,r,U];let A:=Cew (Pj T [Mh,b,T,e]) n N z j;rw[Tj,o,e,c,d,id r];rw[Vu,u,eL e c d Em [BF,x,H,A,t,Q_ (λys Q=>DR (I.qF Q Z)),r,Acb (R b T).1]]
 done:=by intro X q Y m L i S s D H E I R st J;subst q Y m;obtain⟨C,Z,O⟩:=J;rw[Vy,W,f,p,B,Z];rw[TZ,n,G,y,N,z,j,R M AN];let v:=f.length;show wpAny_pyNext_tuple_end ND st (Dbk a [HU,W]) Dem λg l=>Bgq (Pj T (l b o T e)) n N z j
 self:=λ_ _ _ _ _ st h=>wpAny_pyIter_tupleiter st h
def afH{K:PySem.W.Frag}(M:Addr)(lo:Int)(n:Nat):yh P w K Q (sgn lo n) [M] M (Abw (IsRangeIter h M (lo+Cn i*1) (LD-Cn i) 1))where
 mem:=AY
 obj:=λi h st b T=>by
  let e:b=M:=by simpa using T
  rw[Uo];rw[Ua,st,λv z=>by let Z:Data.fields _=Data.cell v:=z;cases Z]
 keep:=λi h g st k=>k M AN _ st
 item:=by intro X q Y m L i S s D H E I R st J;subst q Y m;rw[TZ,F,G,y,N,f,j,R M AN];let W:=Walks.range (prog:=X.prog) (w:=X.w) ND M lo 1 n;show W.item i s _ _ J st [HF,v,g,B,O,C,U];obtain⟨t,rfl⟩:=O;let A:QC H Cfg:=I.turned (Pj T (U b o Cqa e)) F G N f j;rw[Vh,eL (s:=Cfg) (n:="range_iterator") C Ab Ab Dc [BF,Ec (lo+i),H,A,FY t,Aku Ab,C,Acb (R b T).1]];rw[Int.mul_one]
 done:=by intro X q Y m L i S s D H E I R st J;subst q Y m;rw[TZ,F,G,y,N,f,j,R M AN];show wpAny_pyNext_range_end ND st (by let:n<=i:=J;omega) λg l=>Bgq (Pj T (l b o T e)) F N f j
 self:=λ_ _ _ _ _ st h=>wpAny_pyIter_rangeiter st h
section
variable{X:Cx}{tg:Expr}
def afI{D:St}{lo:Int}(I:Eo)(G:-(2^62)<=lo)(z:lo<2^62)(F:-(2^62)<=h)(C:h<2^62)(q:R (sgn lo [DQ,h-lo]) H):EQ NZ GT [Bum,(PR)] (sgm X S D tg R) E [Dcw,Adi Acy #[Bxc,GU h u,GU 1 v]]:=by
 show wpAny_pyIter_range (IsRange.new ..) (small_one G z F C) ?_;let A:QC H [Dcw,Adi Acy #[Bxc,GU h u,GU 1 v]]:=I.kept Bul;show⟨La (Adi Acy #[Bxc,GU h u,GU 1 v]),[La (Adi Acy #[Bxc,GU h u,GU 1 v])],_,_,H,Ab,A.kept (t':=B) Bul,afH _ lo [DQ,h-lo],?_,AV b T,q⟩
 ·let W:lo+Bnx*1=lo:=AY
  let N:Ay [DQ,h-lo]-Bnx=Ddm lo h 1:=by rw[rangeSize_one];split<;>omega
  change IsRangeIter _ _ (lo+Bnx*1) (Ay [DQ,h-lo]-Bnx) 1;rw[W,N];show IE
 ·let e:b=La (Adi Acy #[Bxc,GU h u,GU 1 v]):=by simpa using T
  rw[Uo];show A.f8 Do (Bpx Do)
def sk1(L:TA):TI:=λD H R=>L D H λJ n=>∃j:Int,J=[EC]/\-(2^62)<=j/\j<2^62/\R (sgn 0 Jk) n
def afJ(J:Gl X Acy)(A:Afo Acy=Ad)(M:Ajm Hi L)(P:Lb Hi=[(Af,Du a)]:=by rfl):PI X tg (Hk (PF Acy p) Hi B) (sk1 L):=by rw[Vg,D,R];show Call_ (f7 I J A boot_range (sex [Cr,M _ _ s _ H _ I h,λW m⟨_,_,_,g,U⟩=>?_] P Ab));rw[Wj,j,e,U,Q,q];rw[Uo];cases g with|cons r d=>cases d;rw[VN,t];grind[call_range_1,afI]
def sk2(l:TI)(g:TG)(O:TS):TS:=λD A H=>l A H λJ n=>∃W:Aw->Aw->Aio,(∃m,W 0 m A n)/\∀i m A H,W i m A H->(J.stop i H/\Ben H)\/(J.go i H/\∃N:Aio,(∀a M,N a M->∃h,h<m/\W (i+1) h a M)/\∀x M,J.sc4 i H x M->g x A M λc j=>O Czc c j)
def sc5(A:Ez)(h:Heap):D_:=A.filterMap λb=>IP Js o (b,o)
def kT(T:b∈A)(e:Js=Ai):DX b o (sc5 A h):=sgo.mpr [Am,b,T,DY e]
def afK(Y:p∈sc5 A h):Ax∈A/\MP Ax=Bqk:=by rw[Te,b,T,e,sgo.mp Y];cases q:Js<;>grind
theorem Inv.pinned{D:St}(I:Eo)(R:Ra (wM X S H b))(Z:Ra (∃o,HD=Ai/\∀v,IC≠FX v)):Inv X (S++sc5 A Bg) D H s:=I.qw [Kg,(Ard Y).elim [GK,Clg] [Jt,by rw[Tc,T,e,afK z];rw[Tj,n,G,y,_,R _ T];grind]]
def Inv.iw{D:St}(I:Inv X (IQ++c) D H s):Boc X D H s:=I.qw [Kg,Clg]
def afL(Y:Bph GT Di Agg)(L:Ji=Aa)(hi:PI X tg Z l)(hg:PG X tg g)(hb:vm X j O)(P:∀x,Atm Z=Afl:=by intro _;rfl):ML (.For tg Z j [] V0) (sk2 l g O):=by
 rw[Vg,σ,D];show wpAny_For [Cr,hi _ s _ H _ I h,λv s1 h1=>dQ h1 [Bz,U0,B,z]] P;obtain⟨it,A,E,J,H2,e,G,T,I0,y,W,⟨m0,w0⟩,O0⟩:=z;rw[Uo];let C0:∀{M:Hp},(Ra (M b=Ad))->Ra (wM _ _ _ _):=λhn b hb=>Aj (hn b hb) (y b hb).2;show codeAny_forLoop_any (λn s'=>∃i l0 M,Inv X _ l0 M s'/\E i Agy/\(Ra (M b=Ad))/\W i n l0 M) ?_ _ [BF,0,_,_,G,I0,KW hb (y b hb).1,w0];rintro n s3⟨i,P0,R,p,E0,D0,w3⟩;rcases O0 i n _ _ w3 with⟨J0,qn⟩|⟨go,N,c,step⟩;·show saK Y [Cr,T.done X Ab Ab Ab L i _ _ _ _ _ p (C0 D0) E0 J0,λr F⟨w,C⟩=>?_];subst w;show Cqz [Ky,_,C,qn]
 ·show saK Y [Cr,T.item X Ab Ab Ab L i _ _ _ _ _ p (C0 D0) E0 go,λr F⟨u,w,h4⟩=>?_];subst w;show saK Y (dQ h4 λ_ s5⟨x,q,I5,r5,y5,U,H0⟩=>?_);let G0:=I5.pinned (C0 H0) (T.obj _ _ U);show saK Y [Cr,hg _ s5 P0 q x u _ G0 r5 (step x q y5),λ_ s6⟨Q0,H6,I6,q6⟩=>?_];show saK Y [Cr,hb _ s6 Q0 H6 _ I6 q6,Bz f s7 Q];let again:∀{a:St}{k:Hp},Inv X (S++sc5 A s5.heap) a k s7->N a k->∃m,m<n/\∃i l0 M,SA l0 M s7/\E i s7.heap/\(Ra (M b=Ad))/\W i m l0 M:=λ{a k}t n7=>by rw[Te,m',hm,w7,c a k n7];show⟨m',hm,i+1,a,k,t.iw,T.keep _ _ _ U [I_,hb,o,e,(t.pin (b,o) (sbA _ (sbA _ (kT hb e)))).1],AV b hb,w7⟩;rw[Te,o,e,d,T.obj _ _ U b hb];show(t.pin (b,o) (sbA _ (sbA _ (kT hb e)))).2.1
  cases f with|next=>obtain⟨a,k,t,n7⟩:=Q;show again t n7|cont=>obtain⟨a,k,t,n7⟩:=Q;show again t n7|brk=>obtain⟨a,k,t,Q⟩:=Q;rw[Ts,a,k,t.iw,Q]|ret v=>obtain⟨x7,a,k,t,r7,Q⟩:=Q;show Ds x7 a k t.iw r7 Q
end
abbrev R2:=V->Rn V
def siK(X:Cx)(f:Eh->Eh->Sem Eh)(r:R2):Al:=Dgo (Eo->Akb->OZ->r x y H Q->FM (f v u) (EP X S D Q))
def sgp(X:Cx)(f:Eh->Sem Eh)(r:Rn V):Al:=∀(S:D_)(s:Shared)(D:St)(H:Hp)(x:V)(v:Value)(Q:VK),Eo->Akb->r x H Q->FM (f v) (EP X S D Q)
def siL(X:Cx)(f:Value)(r:Qg):Al:=∀(S:D_)(s:Shared)(D:St)(H:Hp)(C:Ba)(W:BA)(Q:VK),Eo->Qr->r C H Q->FM (call f W) (EP X S D Q)
def sbB(r:R2)(L O:TE):TE:=λD H Q=>L D H λx n=>O D n λy j=>r x y j Q
def tUn(r:Rn V)(L:TE):TE:=λD H Q=>L D H λx n=>r x n Q
def rI(C:Im Bm Bm)(g:Bm->Bm->V):R2:=λx y H Q=>∃i j,x=CI/\y=EC/\C i j/\Jn (g i j)
def siM(g:Bm->Bm->V):R2:=λx y H Q=>∃i j,x=CI/\y=EC/\Jn (g i j)
def rU(g:Bm->V):Rn V:=λx H Q=>∃i,x=CI/\Jn (g i)
section
variable{X:Cx}{a b c:Expr}{ta tb tc:TE}{pos:Pos}
def kU(M:Akc)(T:Atl b){D:St}{R:V->LC V}(I:Eo)(h:ta D H λx n=>tb D n λy j=>R x y j){f:Eh->Eh->Sem Eh}(F:∀v u B x y j,QC j B->Akb->OZ->R x y j->RF (f v u) Q B):FM (Du a) (λv E=>RF [Du,b] (λu C=>RF (f v u) Q C) E):=by show Jf (M _ s _ H _ I h) λv m⟨x,n,A,_,U⟩=>?_;show Jf (T _ _ _ _ _ A U) λu B⟨y,_,_,_,_⟩=>?_;grind
def afM(Z:Hz (Cod J) r)(M:Akc)(T:Atl b):[Ef,.BinOp a J b Bv,sbB r ta tb]:=Bpu (wpAny_BinOp (kU M T I h λv u B x y j G m R q=>Z _ _ _ _ x y v u Q G m R q))
def qH(Z:sgp X (unaryOp J) r)(M:Akc):[Ef,Bqm J Bv,tUn r ta]:=Bpu (UnaryOp_ [Cr,M _ s _ H _ I h,Cft m (Z _ _ _ _ x v Q A g U)])
def iy{g:Bm->Bm->Bm}(rule:Cxv IZ IZ (C i j->Byk (GU (g i j) Adk) (Adk+1)->Bik (f (Aji i) (GU j u)) Q E)):Hz f (Buc C (g i j)):=by intro S s D H x y v u Q I m R h;rw[WQ,i,j,rfl,L,q];rw[UQ];rw[U_];show rule i j t _ s _ _ L Bgt
def f9{g:Bm->Bm->Bm}(rule:Cxv IZ IZ (Byk (GU (g i j) Adk) (Adk+1)->Bik (f (Aji i) (GU j u)) Q E)):Hz f (Ayu (g i j)):=by intro S s D H x y v u Q I m R h;rw[Vx,i,j,rfl,q];rw[UQ];rw[U_];show rule i j t _ s _ _ Bgt
def iz{g:Bm->BU Bm}(rule:Cxv IZ IZ (Q (.bool (g i j)) s->Bik (f (Aji i) (GU j u)) Q E)):Hz f (Atq (g i j)):=by intro S s D H x y v u Q I m R h;rw[Vx,i,j,rfl,q];rw[UQ];rw[U_];show rule i j t d s _ _ [DP,Ed (g i j),H,I,q]
def siN(i j:Int):Al:=(-(2^64)<i/\i<2^64)\/(-(2^64)<j/\j<2^64)
theorem siN.ok(h:siN i j):IntMulOk i j:=by
 rcases h with⟨G,z⟩|⟨G,z⟩;·show .of_left (intBits_le_64 G z)
 ·show .of_right (intBits_le_64 G z)
def asQ(k:Nat):Ia<=2^k:=Aq
def afN:Bme Bsj [Ayu,i+j]:=f9 λ_ _ _ _ _ _ _ q=>add_int q
def afO:Aoi .Sub [Ayu,i-j]:=f9 λ_ _ _ _ _ _ _ q=>sub_int q
def afP:Aoi .Mod [Bux,j,CV j,i.fmod j]:=iy λ_ _ _ _ _ _ _ L q=>mod_int' L q
def afQ:Aoi .RShift [Bux,j,0<=j,i/2^Jk]:=iy λi j _ _ _ _ _ L q=>rshift_int L Ag
def afR:Aoi .BitAnd [Ayu,Dfh j]:=f9 λ_ _ _ _ _ _ _ q=>and_int q
def afS:Aoi .BitOr [Ayu,Builtin.bitOr i j]:=f9 λ_ _ _ _ _ _ _ q=>or_int q
def afT:Aoi .BitXor [Ayu,Dfi j]:=f9 λ_ _ _ _ _ _ _ q=>xor_int q
theorem unI{g:Bm->Bm}(rule:∀(i:Int)(t:Tok)(s:Shared)(Q:IZ)(E:IZ),Byk (GU (g i) Adk) (Adk+1)->Bik (f (Aji i)) Q E):sgp X f (rU [Aar,Ec (g i)]):=by intro S s D H x v Q I m h;rw[Ut,i,rfl,q];rw[UQ];show rule i t s _ _ Bgt
def qI:sgp X (unaryOp .USub) (rU [Aar,Byu i]):=unI λ_ _ _ _ _ q=>neg_int q
end
def sgq:V->BU V|.sD,.sD=>true|.sD,.int _=>true|.int _,.sD=>true|.sD,.bl _=>true|.bl _,.sD=>true|.sD,.str _=>true|.str _,.sD=>true|.int _,.int _=>true|.bl _,.bl _=>true|.str _,.str _=>true|.wK _,.wK _=>true|.int _,.str _=>true|.str _,.int _=>true|.bl _,.str _=>true|.str _,.bl _=>true|_,_=>false
def siO:R2:=λx y H Q=>sgq x y=Aa/\Atp [AQ,x,y]
def siP:R2:=λx y H Q=>sgq x y=Aa/\Atp (! AQ x y)
def kW:[AQ,Bnt i,Bnt j]=(i==j):=Aq
def kX:[AQ,V.bl i,V.bl j]=(i==j):=Aq
def kY:[AQ,V.str i,V.str j]=(i==j):=Aq
def qJ:[AQ,V.wK i,V.wK j]=(Cad==j.toList):=by rw[sbC];cases i;cases j;simp
section
variable{X:Cx}{a b c:Expr}{ta tb tc:TE}{pos:Pos}
def kZ{D:St}(I:Eo)(q:Jn [Ff,k])(e:k=A):EP X S D Q (.bool A) s:=by rw[Uo];show DP [Ff,k] H I q
def afU:Hz (Age .Eq) siO:=by
 intro S s D H x y v u Q I m R h;rw[UJ,P,q];cases x with
 |sD=>rw[Uk];cases y with|sD=>rw[Ue];show EqNone.eq_none_none JY|bl j=>rw[Ue];show EqNone.eq_none_bool JY|int j=>rw[U_];show EqNone.eq_none_int JY|str j=>rw[U_];show EqNone.eq_none_str JY|_=>rw[Wb,Af=Aa]
 |bl i=>rw[Uk];cases y with|sD=>rw[Ue];show EqNone.eq_bool_none JY|bl j=>rw[Ue];show eq_bool (Bbl kX)|str j=>rw[U_];show EqMixed.eq_bool_str JY|_=>rw[Wb,Af=Aa]
 |int i=>rw[UQ];cases y with|sD=>rw[Ue];show EqNone.eq_int_none JY|int j=>rw[U_];show eq_int (Bbl kW)|str j=>rw[U_];show EqMixed.eq_int_str JY|_=>rw[Wb,Af=Aa]
 |str i=>rw[UQ];cases y with|sD=>rw[Ue];show EqNone.eq_str_none JY|bl j=>rw[Ue];show EqMixed.eq_str_bool JY|int j=>rw[U_];show EqMixed.eq_str_int JY|str j=>rw[U_];show eq_str (Bbl kY)|_=>rw[Wb,Af=Aa]
 |wK i=>rw[UQ];cases y with|wK j=>rw[U_];show PySem.W.eq_bytes (Bbl qJ)|_=>rw[Wb,Af=Aa]
 |_=>cases y<;>rw[Wb,Af=Aa]
def afV:Hz (Age .NotEq) siP:=by
 intro S s D H x y v u Q I m R h;rw[UJ,P,q];cases x with
 |sD=>rw[Uk];cases y with|sD=>rw[Ue];show EqNone.ne_none_none JY|bl j=>rw[Ue];show EqNone.ne_none_bool JY|int j=>rw[U_];show EqNone.ne_none_int JY|str j=>rw[U_];show EqNone.ne_none_str JY|_=>rw[Wb,Af=Aa]
 |bl i=>rw[Uk];cases y with|sD=>rw[Ue];show EqNone.ne_bool_none JY|bl j=>rw[Ue];show ne_bool (Bbl (vo not kX))|str j=>rw[U_];show EqMixed.ne_bool_str JY|_=>rw[Wb,Af=Aa]
 |int i=>rw[UQ];cases y with|sD=>rw[Ue];show EqNone.ne_int_none JY|int j=>rw[U_];show ne_int (Bbl (vo not kW))|str j=>rw[U_];show EqMixed.ne_int_str JY|_=>rw[Wb,Af=Aa]
 |str i=>rw[UQ];cases y with|sD=>rw[Ue];show EqNone.ne_str_none JY|bl j=>rw[Ue];show EqMixed.ne_str_bool JY|int j=>rw[U_];show EqMixed.ne_str_int JY|str j=>rw[U_];show ne_str (Bbl (vo not kY))|_=>rw[Wb,Af=Aa]
 |wK i=>rw[UQ];cases y with|wK j=>rw[U_];show PySem.W.ne_bytes (Bbl (vo not qJ))|_=>rw[Wb,Af=Aa]
 |_=>cases y<;>rw[Wb,Af=Aa]
def afW:Ayv .Lt [Atq,Bl i j]:=iz λ_ _ _ _ _ _ _ q=>lt_int q
def gb:Ayv .LtE [Atq,Bn i j]:=iz λ_ _ _ _ _ _ _ q=>le_int q
def afX:Ayv .Gt [Atq,Bl j i]:=iz λ_ _ _ _ _ _ _ q=>gt_int q
def afY:Ayv .GtE [Atq,Bn j i]:=iz λ_ _ _ _ _ _ _ q=>ge_int q
def afZ:Ayv .Is (λx y H Q=>y=Bt/\Atp [AQ,x,Bt]):=by intro S s D H x y v u Q I m R h;rw[UJ,rfl,q];rw[Ue];show is_none_gen (kZ I q ?_);cases x<;>first|rfl|(rw[UQ];rfl)
def af_:Ayv .IsNot (λx y H Q=>y=Bt/\Atp (! AQ x Bt)):=by intro S s D H x y v u Q I m R h;rw[UJ,rfl,q];rw[Ue];show isnot_none_gen (kZ I q ?_);cases x<;>first|(rw[Uk];rfl)|(rw[UQ];rfl)
theorem siK.or(h:Hz f r)(g:Hz f F):Hz f (λx y H Q=>r x y H Q\/F x y H Q):=by
 intro S s D H x y v u Q I m R q;rw[Xs];·show h _ s _ H x y v u Q I m R q
 ·show g _ s _ H x y v u Q I m R q
def af0(Z:Hz (Age J) r)(M:Akc)(T:Atl b)(A:Bit J b=Af):[Ef,Avg [J] [b] Bv,sbB r ta tb]:=Bpu (wpAny_Compare1 (kU M T I h λv u B x y j G m R q=>Z S B D j x y v u Q G m R q) A)
def siQ(t:TE):TT:=λD H Q=>t D H λx M=>∃k,x=Ff k/\Q k M
def af1(Z:Hz (Age J) r)(M:Akc)(T:Atl b)(C:Bit J b=Af):PT X (Avg [J] [b] Bv) (siQ (sbB r ta tb)):=by rw[UZ];show wpAny_isTrue_Compare1 [Cr,M _ s _ H _ I h,Cft m [Jf,T _ _ _ _ _ A U,Cro B [Jf,Z _ _ _ _ x y v u _ G g P R,λc N⟨z,E,p,O,k,e,t⟩=>?_]]] C;rw[Uo];cases O;show zD [HV,p,t]
def siR(r F:R2)(ta tb tc:TE):TE:=λD H Q=>ta D H λx n=>tb D n λy j=>r x y j λz R=>∃k,z=Ff k/\[Cv,k=Aa,tc D R λG w=>F y G w Q,Q (Bzi) R]
def af2(Z:Hz (Age J) r)(f:Hz (Age o) F)(M:Akc)(T:Atl b)(L:DF c tc)(E:Cjx J o [b,c]=Af:=by with_unfolding_all rfl):[Ef,Avg [J,o] [b,c] Bv,siR r F ta tb tc]:=by rw[UZ];show Compare_chain [Cr,M _ s _ H _ I h,Cft m (chain_link [Cr,T _ _ _ _ _ A U,Cro B [Jf,Z _ _ _ _ x y v u _ G g P R,λd N⟨z,Y,p,O,k,e,t⟩=>?_]])] E;rw[Uo];cases O;show zD ?_;cases k with|false=>show ite_ff [DP,Bel,_,p,t]|true=>show ite_tt (chain_last [Cr,L _ _ _ _ _ p t,λq l⟨z',w,C,W,i⟩=>f _ _ _ _ y _ u _ Q C P W i])
def af3(Z:Hz (Age J) r)(f:Hz (Age o) F)(M:Akc)(T:Atl b)(L:DF c tc)(W:Cjx J o [b,c]=Af:=by with_unfolding_all rfl):PT X (Avg [J,o] [b,c] Bv) (siQ (siR r F ta tb tc)):=by rw[Vg,σ,Q];show isTrue_chain [Cr,M _ s _ H _ I h,Cft m (test_link [Cr,T _ _ _ _ _ A U,Cro B [Jf,Z _ _ _ _ x y v u _ G g P R,λd s3⟨z,H3,p,O,k,e,t⟩=>?_]])] W;rw[Uo];cases O;show zD ?_;cases k with|false=>obtain⟨k',D,Y⟩:=t;cases D;show ite_ff [HV,p,Y]|true=>show ite_tt (test_last [Cr,L _ _ _ _ _ p t,λw' s4⟨z',w,C,r4,i⟩=>Jf (f _ _ _ _ y _ u _ _ C P r4 i) λd' s5⟨_,q,E,r5,_,N,l⟩=>?_]);subst N;cases r5;show zD [HV,E,l]
def gc:Cn MM<2^63:=by grind[sizeLine_eq]
def af4:Bme Bsj (λx y H Q=>∃i j,x=Cw i/\y=Cw j/\Cu (Ans+Ate)/\Jn [Ft,i++j]):=by intro S s D H x y v u Q I m R h;rw[WQ,i,j,rfl,B,q];rw[UQ];rw[U_];show add_str (λd T=>Bds [Ft,i++j] q) B
theorem vals1(r:Ku [x]):∃u,W=[u]/\Kl x:=by cases r with|cons g P=>cases P;rw[Vh,g]
theorem vals2(r:Ku [x,y]):∃u G,W=[u,G]/\Kl x/\RelV y G:=by cases r with|cons g P=>cases P with|cons O U=>cases U;grind
def af5:LQ (Lf "abs") (λC H Q=>∃i,C=Aox/\Jn [Ec,[Gz,i<0,-i,i]]):=by intro S s D H C W Q I r h;rw[Ut,i,rfl,q];rw[Tj,u,rfl,t,rfl,Bji];show call_abs_int λu B=>Bgt
def af6(L:Ji=Aa):LQ (Lf "max") (λx H Q=>∃i j,x=[CI,EC]/\Amg [Cv,j>i,j,i]):=by
 intro S s D H x W Q I r h;rw[VP,i,j,rfl,q];rw[Vn,u,G,⟨t,rfl⟩,⟨d,rfl⟩,vals2 r];show max_two_ints ND λg B k=>Ath _ H (I.kept k) q;rw[Td,C,j>i];·rw[Av C,Av C];rw[TY,_]
 ·rw[AF C,AF C];rw[TY,_]
def af7:LQ (DN Bmm) (λC H Q=>∃i,C=Aox/\Bpg i<1920/\Jn [Ft,Bpp]):=by intro S s D H C W Q I r h;rw[VP,i,rfl,B,q];rw[Tj,u,rfl,t,rfl,Bji];show PySem.P.str_of_int B [Bds,Bfm,q]
def af8:LQ (Lf "ord") (λC H Q=>∃x,C=[Cw x]/\AD=1/\Amg [Cn,x.cps.getD 0 0]):=by intro S s D H C W Q I r h;rw[VP,x,rfl,B,q];rw[Tj,u,rfl,t,rfl,Bji];show ord_of_one B Bgt
end
structure saM(h:Heap)(x dx C:Addr)(mA:BG->EU):Al where
 obj:MP x=As [Coc,dx]
 ns:h.Ns1 dx mA
 ne:dx≠x
def qK{h:Heap}(n:h.Ns1 Y M):∃D,MP Y=Apa/\∀O,PySem.W.lookIn O D=As (M O):=by
 obtain⟨o,R,B,A,j,Z,_,H⟩:=n;rw[Tp,o,A,FC O];let e:=H O;unfold nsFind findBy at e;rw[PySem.W.lookIn,j];rw[TD];split;·grind
 ·let a:R.toList.any (·.refKey)=Af:=by rw[List.any_eq_false];intro y Q;rw[Te,z,t,u,Z y Ag];simp[DictEntry.refKey,u]
  grind
theorem saM.look(I:saM h x Y C M):∃D,Ctq h x (Coc Y) (Apa)/\∀O,PySem.W.lookIn O D=As (M O):=let⟨D,Z,U⟩:=qK I.ns;HV [AO,I.obj,Ab,Ab,Z] U
section
variable{prog:Program}{w:World}{A:Around}{E:Value->Shared->Prop}{s:Shared}{K:PySem.W.Frag}{x dx C f:Addr}{mA:Str->Option Value}{name:Str}{v:Value}
def af9(X:Awd)(I:saM Bg x dx C mA)(H:Cgh C IY=Aa)(B:Cfo C=Aa)(M:Qj IY=S_)(O:mA IY=Fj)(a:Deo v=Aa)(h:Byk v (Adk+1)):MB (getAttr (OX) IY e):=by rw[YG,J,U];show PySem.W.get_value X J (sgr H).1 (PySem.W.findObj_own B M Ab Ag) a h
def aga(X:Awd)(I:saM Bg x dx C mA)(H:Cgh C IY=Aa)(R:Qj IY=Ln f)(B:Crw Afd=Aa)(O:mA IY=Ad)(h:Q (AC f,[OX]) s):MB (getMethod (OX) IY c):=by rw[YG,J,U];show PySem.W.method_fn X J (sgr H).1 (sgr H).2 R (sey.mp B) (by change Bp (PySem.W.lookIn ..) _=CU;grind) h
def agb(X:Awd)(I:saM Bg x dx C mA)(P:Qj Bov=Cdx)(Y:Dde C=Aa)(G:PySem.W.takerIn K C IY=S_)(H:Cfo C=Aa)(M:Cud mA S)(r:Cu Cvv)(h:∀g,saM g x dx C (λy=>[Bo,y=IY,Fj,mA y])->Bot dx g->Q () [Dcx,Adk+2]):MB (setAttr (OX) IY v):=by rw[YG,J,U];show PySem.W.set_plain X J P (PySem.W.osa_open X J Y G [FC,b]);rw[Te,O,L,n,Dep H];rw[To,Bvg [Auw,Ddx I.obj (sgs (sgt X L) ?_)]];rw[n];show Bvg [Fv,(PP)];show wpAny_nsSet1 I.ns [Bz,g,m,i];rw[TZ,p,N,R,B,F,Z,m.count (Within.cons _ v M)];rw[To,wpAny_lookBehind B Czq ?_];show Fv (h _ [Am,DT (i.2 _ (uc I.ne)) I.obj,m,I.ne] i)
def agc(X:Awd)(D:Det C=Aa)(B:Qj Aco=Ln f)(H:Byg K Afd=Blu)(h:Ams Agp (Bso (Bxq [Aj,Lh::J,a])) [Bgx,Afd,Aj (AC (AR+1)::J) a] (PySem.W.InitBack (AR+1) R) [Sz,PV Cmi (Cep)]):Ams Agp A [Bgx,Mf,Aj J a] R s:=PySem.W.make_core (PySem.W.makes_of X D) (sc6 X B) (λS=>PySem.W.bind_fn X _ H) GZ h
end
def yP(f:Str)(v:V):Apf->Apf|[]=>[(f,v)]|(g,x)::r=>[Bdc,g=f,(g,v)::r,(g,x)::Acd r]
def qL(f g:Str)(v:V):∀I:Apf,JK (Acd I) g=[Bo,g=f,Fj,Bkg g]|[]=>Chj (List.lookup g [(f,v)]=_)|(k,x)::r=>by let d:=qL f g v r;rw[show Acd _=([Bdc,k=f,(k,v)::r,(k,x)::Acd r])from rfl];grind
def k_(f:Str)(v:V):∀I:Apf,f∈Bp [Acd,I] Aci/\∀g,g∈Avm->g∈Bp [Acd,I] Aci
|[]=>[Aj,CO yP,λg h=>Azs]
|(k,x)::r=>by
 rw[Tc,t,d,k_ f v r];rw[show Acd ((k,x)::r)=([Bdc,k=f,(k,v)::r,(k,x)::Acd r])from rfl];rw[Td,Z,k=f];·rw[Av Z];subst Z;rw[Th,AY,λg h=>Cot]
 ·rw[AF Z];show Pu [AV,g,h];·rw[tz];show MA t
  ·rw[Ud,tz,h];rcases FI h with e|e;·show yQ.mpr (AK e)
   ·show MA (d g e)
def qM(f:Str)(v:V):∀I:Apf,An [Acd,I]<=KN+1|[]=>CO yP|(k,x)::r=>by let d:=qM f v r;rw[show Acd _=([Bdc,k=f,(k,v)::r,(k,x)::Acd r])from rfl];grind
theorem uB.some_of(r:uB Abe o):∃u,o=BW/\KQ:=by cases o with|none=>show Bwy|some u=>rw[Vu,u,r]
theorem uB.none_of(r:uB Ad o):o=Ad:=by cases o with|none=>rfl|some u=>show Bwy
def agd(r:KQ):Deo u=Aa:=by cases v with|sD=>cases Cfi (u=Bjg);rfl|bl b=>cases Cfi (u=Bpw b);rfl|int i=>rw[Tc,t,e,(Bqb t (u=Bcb i t))];rw[Tr];rfl|str x=>rw[Tc,t,e,(Bqb t (u=Cig t))];rw[Tr];rfl|wK b=>rw[Tc,t,e,(Bqb t (u=Value.bytes b t))];rw[Tr];rfl|sep b=>rw[Tc,t,e,(Bqb t (u=Value.float b t))];rw[Tr];rfl|ref a=>cases Cfi (u=RX);rfl|ty n=>cases Cfi (u=Bzf n);rfl
section
variable{P:Program}{w:World}{H H':Hp}{h h':Heap}{a C dx:Addr}{fs fs':List (Str×V)}
def k6(sv:R')(e:AM=Pr C dx fs):∃M,saM h a dx C M/\(∀f,uB (fs.lookup f) (M f))/\Cud M Dcy/\Cue<=BI/\H dx=Ark a:=by obtain⟨d,z,N,A,M,n,r,q⟩:=([Ako,tN P w H h a _,sv a _ e]);show Ds _ [Am,A,n,N] r q z d
end
structure v_(K:PySem.W.Frag)(C:Addr):Al where
 pg:Cgh C Bqf=Aa
 hd:Cfo C=Aa
 po:Dde C=Aa
 sa:Qj Bov=Cdx
theorem v_.get{K:PySem.W.Frag}(c:v_ K C)(f:Str):Cgh C f=Aa:=c.pg
def xw(K:PySem.W.Frag)(C:Addr)(f:Str):Al:=Qj f=S_
def xw.age{K:PySem.W.Frag}(n:xw K C f):PySem.W.takerIn K C f=S_:=Agj PySem.W.takerIn [Bzg,Dgd _ f,CU]
structure saN(K:PySem.W.Frag)(C:Addr)(m:Str)(f:Addr):Al where
 at_:Qj m=Ln f
 fn:Crw Afd=Aa
 kp:Amb K f=Aa
section
variable{X:Cx}{pins:List (Addr×Obj)}{σ:St}{H:Hp}{s:Shared}{a C dx:Addr}{fs:List (Str×V)}{f:Str}{v:V}{A:Around}{E:Value->Shared->Prop}
def qN(I:Bu)(e:AM=Pr C dx fs)(c:v_ Ar C)(n:xw Ar C f)(l:fs.lookup f=Fj)(h:∀u d,MR H d->KQ->Q u d):EK NZ A (getAttr Gk f b) Q E:=by rw[TZ,M,O,r,_,_,_,k6 HC e];rw[UT,F,g,uB.some_of (v:=v) (o:=M f) Ag];show af9 RR O (c.get f) c.hd n F (agd g) (h u _ (Apt) g)
def qO(I:Bu)(e:AM=Pr C dx fs)(c:v_ Ar C)(k:saN Ar C m g)(l:fs.lookup m=Ad)(h:Q (AC g,[Be]) s):EK NZ A (getMethod Gk m P) Q E:=by rw[TZ,M,O,r,_,_,_,k6 HC e];let B:M m=Ad:=uB.none_of [Bfy,l,r m];show aga RR O (c.get m) k.at_ k.fn B h
def qP(I:Bu)(e:AM=Pr C dx fs)(c:v_ Ar C)(n:xw Ar C f)(G:Cue<BI)(R:OZ)(h:∀d,MR (HG (Aaa dx (yP f y fs))) d->Q () d):EK NZ A (setAttr Gk f u) Q E:=by
 rw[TZ,M,O,r,l,_,Z,k6 HC e];let B:AG Dcy<=MM:=by rw[sr,yi];omega
 show agb RR O c.sa c.po n.age c.hd l B λF i U=>h _ ?_;let j:∃o,F.get? dx=Ai:=let⟨o,_,_,D,_⟩:=i.ns;Aj o D;show I.write (x:=a) (e:=dx) [Cps,e] (Bw Z) (I_ q T z [Mh,b,T,z]) j ?_;show⟨by rw[ai O.ne];show Z,?_,O.ne,i.obj,_,i.ns,FC g,AV g J⟩;·let:=qM f y fs;omega
 ·change uB (JK (yP f y fs) g) [Cv,g=f,BW,M g];rw[qL];rw[Td,q,g=f];·rw[Av q,Av q];show R
  ·rw[AF q,AF q];show r g
 ·rw[Td,q,g=f];·rw[q];show(k_ f y fs).1
  ·show(k_ f y fs).2 g (l g [Jt,J ?_]);change[Cv,g=f,BW,M g]=Ad;rw[AF q];show z
theorem Inv.made(I:Bu):MR [Abr,Ei AR (Lu (AR+1)),(AR+1),Aaa AR []] [Sz,PV Cmi (Cep)]:=by
 let W:QN [Acg,_] _=Ae Dgl:=IE;let N:QN [PV,Cmi,(Cep)] (AR+1)=As Cep:=by let:=zG (Cmi) (o:=Cep) Ab;simp_all
 let J:(Acg _).Ns ..:=BF _ _ _ W Ab (λe Y=>Qi Y) Arv;show(I.laid (o:=Lu (AR+1)) (t':=s.toks) (HM u q Atx) Do [Ke,W]).laid (HM u q Atx) Cgy ?_;let w:AR≠AR+1:=uQ Ac;show[DB,Hy (ai w) ac,Bls,w,N,_,(Ddn J).at λo q=>Atx,Ej True.intro,λy Q=>JA Ab Q]
def qQ(T:attributeBase e f p (Blx e)=Blx e)(h:EK OY A (Blx e) (λo S=>EQ OY A (getAttr o f Aa) Q E S) E):SM OY (Blx (Hn e f P)):=Attribute_any_ h [Ni,arm_eval_Attribute,T]
end
def sk3(K:PySem.W.Frag)(L:TE)(f:Str):TE:=λD H Q=>L D H λx n=>∃a C Y I v,x=Be/\n a=Abs/\v_ K C/\xw K C f/\Bkg f=Fj/\Q v n
def sk4(K:PySem.W.Frag)(L t:TE)(f:Str):TS:=λD A H=>t A H λy n=>L A n λx j=>∃a C Y I,x=Be/\j a=Abs/\v_ K C/\xw K C f/\KN<BI/\Ben [Kf,j,a,Aaa Y (yP f y I)]
def siS(X:Cx)(J:Operator)(o:V->Rn V):Al:=∀(S:D_)(s:Shared)(D:St)(H:Hp)(x y:V)(u v:Value)(Q:VK),Eo->Kl x->Cgf y->o x y H Q->FM (Cwq u v) (EP X S D Q)
def sk5(K:PySem.W.Frag)(L t:TE)(o:V->Rn V)(f:Str):TS:=λD A H=>L A H λx n=>∃a C Y I v,x=Be/\n a=Abs/\v_ K C/\xw K C f/\Bkg f=Fj/\t A n λy j=>o v y j λz R=>∃u s,R a=Pr C u s/\Qc<BI/\Ben [Kf,R,a,Aaa u (yP f z s)]
section
variable{X:Cx}{o e value:Expr}{f:Str}{pos pos' tpos:Pos}{ta tv:TE}
def agf(Y:Bjx e)(T:Afz e f (Bsk)=Bsk):[Ef,Hn e f Bv,sk3 Ar ta f]:=by rw[UZ];show qQ T [Cr,Y _ s _ H _ I h,λu F⟨x,E,A,m,a,C,_,_,v,k,t,c,n,l,q⟩=>?_];subst k;rw[XN,u=RX];show qN A t c n l λP B G g=>DL v _ G g q
def qR(M:Bjx o)(O:DF Ang tv)(P:Aab Ang [Hn,o,f,pos'] Bzy=Nn):ML (Adc [Hn o f pos'] Ang Bv) (sk4 Ar ta tv f):=by rw[Vg,J,D];show siT [Cr,O _ s _ H _ I h,λu F⟨y,E,A,r,q⟩=>Jf (M _ _ _ _ _ A q) λb B⟨x,_,G,m,a,C,_,_,k,t,c,n,l,R⟩=>?_] P;subst k;rw[XN,b=RX];show qP G t c n l r λN p=>Ky _ p R
def agg(M:Bjx o)(O:DF Ang tv)(d:siS X J T):ML (.AugAssign (Hn o f tpos) J Ang Bv) (sk5 Ar ta tv T f):=by rw[Vg,σ,D];show wpAny_AugAssign_AttributeAny [Cr,M _ s _ H _ I h,λb Z⟨x,W,A,m,a,C,_,_,v,k,t,c,n,l,q⟩=>?_];subst k;rw[XN,b=RX];show qN A t c n l λu B G g=>Jf (O _ _ _ _ _ G q) λw3 N⟨y,j,p,U,R⟩=>Jf (d _ _ _ _ v y u _ _ p g U R) λw F⟨z,_,P,L,_,_,E,Y,i⟩=>?_;show qP P E c n Y L λQ r=>Ky _ r i
def sk6:V->Rn V:=λx y H Q=>∃i j,x=CI/\y=EC/\Jn [Ec,i+j]
def agh:siS X .Add sk6:=by rintro S s D H x y u v Q I m R⟨i,j,rfl,rfl,q⟩;rw[VR,t,(show∃t,u=Bcb i t from m)];rw[VR,d,(show∃d,v=Bcb j d from R)];show iadd_int [Bds,Ec (i+j),q]
end
section
variable{X:Cx}{pins:List (Addr×Obj)}{σ:St}{H:Hp}{s:Shared}{A:Around}{E:Value->Shared->Prop}{Q:Value->Shared->Prop}{c:Value}{b:Bool}
end
structure tS(k:Nat)(A:Around):Al where
 hd:Bbp=Ad
 dp:Cly+3*k+5<Ddo
 un:Bks+16*k+200<Aag
theorem tS.mono(r:tS k A)(h:j<=k):tS j A:=Am r.hd Dbp Dbq
theorem tS.deeper(r:tS (k+1) A)(p:Env):tS k (Bkh p):=[Am,r.hd,by let:=r.dp;change Cly+1+3*k+5<_;omega,by let:=r.un;change Bks+3+16*k+200<_;omega]
theorem tS.in1(r:tS (k+1) A):tS k A.in1:=[Am,r.hd,by let:=r.dp;grind,by let:=r.un;grind]
def agi{A:Around}:(Bso (Bxq [Aj,Lh::W,a])).depth=Cly+1:=by first|rfl|simp[Around.under,Code.weight,Code.isCreation,Code.isGuard,Code.isCaller,Code.frames,Code.isFrame,guardIds]
def agj{A:Around}:(Bso (Bxq [Aj,Lh::W,a])).units=Bks+1:=Ch
theorem tS.make(r:tS (k+1) A)(C:Addr)(W:BA)(a:Na Eh):tS k (Bso (Bxq [Aj,Lh::W,a])):=[Am,r.hd,by let:=r.dp;rw[agi];omega,by let:=r.un;rw[agj];omega]
theorem tS.depth(r:tS k A):Cly<Ddo:=Dbp
theorem tS.units(r:tS k A):Bks+64<Aag:=Dbq
def saO:TA:=LU H Q [Ov,[]]
def sk7(L:TE)(f:TA):TA:=λD H Q=>L D H λx n=>f D n λC j=>Q (x::C) j
section
variable{X:Cx}{e:Expr}{es:List Expr}{te:TE}{t:TA}{pos:Pos}
def cY:Ajm [] saO:=λ_ _ _ _ H Q I h=>Ddp [Lv,_,I,BY,h]
def bL(M:Bhe e)(w:Ajm es t)(P:Ayd=Sb::Rl:=by rfl):Bhw (sk7 te t):=by intro pos S s D H Q I h;rw[P];show Calls.spliced_cons (Big (M _ s _ H _ I h) u m);show Jf (w _ _ _ _ _ _ A U) λW B⟨C,j,G,r,R⟩=>DL _ _ G [Jo,g,r] R
def sk8(t:TA):TE:=λD H Q=>t D H λC n=>Cu BC/\∀p,n p=Ad->Q Abf [Kf,n,p,KG]
def sk9(t:TA):TE:=λD H Q=>t D H λC n=>Cu BC/\∀p,n p=Ad->Q Abf [Kf,n,p,Fo]
def agk(h:Ajm es t):[Ef,Anb es E Bv,sk8 t]:=by rw[Xe,D,Q,Z];show wpAny_Tuple_spliced [Cr,h Bv S s D H _ I Z,Dcl W m (by rw[<-Ic];show z)];let R:n Rm=Ad:=Bpx Do;show[DP,AC Rm,sU n Rm (KG),Dap (Rx u Aiq),q _ R];rw[Ts,z,W,r,Gd _ IE _ Ab]
def k7(h:Ajm es t):[Ef,.List es Bv,sk9 t]:=by rw[Xe,D,Q,Z];show wpAny_List_spliced [Cr,h Bv S s D H _ I Z,Dcl W m (by rw[<-Ic];show z)];let R:n Rm=Ad:=Bpx Do;show[DP,AC Rm,sU n Rm (Fo),Dap (Rx u Aiq),q _ R];rw[TU,z,W,0,r,IE]
end
abbrev Sp:=Ba->Hp->Im VK XK
abbrev yR:=Ox->Hp->Baq->XK->IZ
structure v5(P:Program)(w:World)(K:PySem.W.Frag)(mg:BG->EU)(base:Heap)(A:Around)(outer:Ox)(s:Shared)(H:Hp):Al where
 frames:Ahv A=Ae Rk
 mod:Mod K mg DU
 bs:∀b o,base.get? b=Ai->HD=Ai/\BX=Ad
 wu:base.objs.size<=AR
 aN:Cfu DU Rk
 vX:∀b∈yg Rk,BX=Ad
 sv:Atf H Bg
 bare:Bcw s.gens
def CE(X:Ox)(P:Program)(w:World)(H:Hp)(s:Shared)(Q:VK)(u:Value)(d:Shared):Al:=∃v M,d.os=s.os/\Bcw d.gens/\Un (yg X) [] H M Bg Btp/\Atf M Btp/\KQ/\Q v M
def CR(a:yR)(X:Ox)(P:Program)(w:World)(H:Hp)(s:Shared)(Q:VK)(E:XK)(r:Result)(d:Shared):Al:=match r with|.ok (.ret u)=>CE X P w H s Q u d|.ok _=>False|.error e=>a X H s E e d
structure sR(P:Program)(w:World)(K:PySem.W.Frag)(mg:BG->EU)(base:Heap)(CX:yR)(k:Nat)(f:Addr)(fd:FuncData)(ps:Dl)(sp:Sp):Al where
 len:∀vs H Q E,sp vs H Q E->Cuf=Bqg
 run:∀(A:Around)(outer:Ox)(s:Shared)(H:Hp)(args:Args)(us:BA)(vs:Ba)(Q:VK)(E:XK),tS k A->v5 P w K mg DU A Rk s H->BindsTo s fd args (ps.zip us)->sJ vs us->sp vs H Q E->Ams (Bib P) A [Bgx,Afd,args] (CR CX Rk P w H s Q E) s
theorem sR.mono{K:PySem.W.Frag}(F:sR P w K n C a j f u l c)(h:j<=k):sR P w K n C a k f u l c:=Aj Bwe (λA X s H B W J Q E D=>F.run A X s H B W J Q E (D.mono h))
theorem sR.imp{K:PySem.W.Frag}(F:sR P w K n C a k f u l c)(h:∀J H Q E,S J H Q E->c J H Q E):sR P w K n C a k f u l S:=[Aj,λJ H Q E q=>F.len J H Q E (h _ _ _ _ q),λA X s H B W J Q E D Y T O G=>F.run A X s H B W J Q E D Y T O (h _ _ _ _ G)]
theorem v5.make{K:PySem.W.Frag}(e:v5 P w K n B A X s H)(C:Addr)(W:BA)(a:Na Eh):v5 P w K n B (Bso (Bxq [Aj,Lh::W,a])) X s H:=[DB,by first|rfl|(simpa[Around.under,Code.envs,Code.isFrame,pushEnvs]using e.frames),e.mod,e.bs,e.wu,e.aN,e.vX,e.sv,PQ e]
theorem v5.in1{K:PySem.W.Frag}(e:v5 P w K n C A X s H):v5 P w K n C A.in1 X s H:=[DB,Ahv e,e.mod,e.bs,e.wu,e.aN,e.vX,e.sv,PQ e]
section
variable{X:Cx}{pins:List (Addr×Obj)}{σ:St}{H:Hp}{s s':Shared}
def Inv.gd(I:Bu):v5 By BD Ar Fp DH GT Oc s H:=DB Bys I.ok.mod I.bs [Li,Cbl,I.sz] I.stack I.kM HC Aap
theorem Inv.after(I:Bu)(h:CE Oc By BD H s Q u s'):EP X IQ σ Q u s':=by obtain⟨v,M,os,c,m,sv,r,q⟩:=h;rw[XS,f,g,d,t,O];obtain rfl:O=s.os:=os;rw[TU,v,_,I.call m sv c Ag,r,q]
end
def sgu(c:Sp)(d:Ba)(E:XK)(t:TA):TE:=λD H Q=>t D H λJ n=>c (J++d) n Q E
def sgv(C:Addr)(m:Str)(c:Sp)(d:Ba)(E:XK)(L:TE)(t:TA):TE:=λD H Q=>L D H λx n=>∃a Y I,x=Be/\n a=Abs/\Bkg m=Ad/\t D n λJ j=>c (x::(J++d)) j Q E
def sgw(C:Addr)(c:Sp)(d:Ba)(E:XK)(t:TA):TE:=λD H Q=>t D H λJ n=>∀x Y,n x=Ad->n Y=Ad->Y≠x->c (OX::(J++d)) [Kf,Kf n Y [Lu,x],x,Aaa Y []] (λv j=>v=Bt/\Q (OX) j) E
def Binds(K:PySem.W.Frag)(u:FuncData)(l:Dl)(O:BA):Al:=∀(s:Shared)(W:BA),Awd->HA W O=Ah->BindsTo s u [Ks,W] (Aaj (W++O))
theorem Binds.all{K:PySem.W.Frag}(h:∀W:BA,OM=Ah->Csw u W=Ek (Aaj W)):Auu K u l:=λs W _ U=>by rw[Ud,ud,U];show .of_eq (h _ U)
def sc7(a:yR)(X:Cx)(E:XK):Al:=∀(S:D_)(D:St)(H:Hp)(s:Shared)(e:Value)(d:Shared),Eo->a Oc H s E e d->X.xe e d
section
variable{X:Cx}{CX:yR}{k:Nat}{f C:Addr}{fd:FuncData}{ps:List Str}{sp:Sp}{dvs:List V}{ds:List Value}{E:XK}{x m:Str}{p pos apos:Pos}{e o:Expr}{es:List Expr}{ta:TE}{t:TA}
def dt{D:St}(F:sR By BD Ar Fp DH CX k f fd ps sp)(w:HZ k)(T:Bcy fd ps ds)(j:Bgh)(O:Atb)(I:Eo)(r:Ku vs)(h:sp (vs++dvs) H Q E):FM (Ajd [AC,f] W) (EP X S D Q):=by
 let P:=Can j;let U:HA W ds=Bqg:=by rw[<-Atk];show F.len _ _ _ _ h
 show saP (Bts (F.run _ _ s H _ _ _ Q E w I.gd (T s _ RR U) P h) r d Z);cases r with|error e=>show O _ _ H s e _ I Z|ok i=>cases i with|ret u=>show I.after Z|next=>show Ajy|brk=>show Ajy|cont=>show Ajy
def agl(F:sR By BD Ar Fp DH CX k f fd ps sp)(w:HZ k)(J:Ii)(B:ID=Ex f)(Z:Amb Ar f=Aa)(T:Bcy fd ps ds)(j:Bgh)(O:Atb)(M:Bhw t)(a:Gu=Af:=by decide)(Y:Ayd=Sb::Rl:=by rfl)(d:Aop Bv (Rl)=Af:=by rfl):[Ef,Jp Ash Bv,sgu sp dvs E t]:=by rw[UZ];show xx (Bei J B a);show sbD (h₀:=X.base) Bpd Z [Cr,M Bv S s D H _ I h,Dfj G [FY,A.aF]] Y d;show dt F w T j O A r q
def agm(F:sR By BD Ar Fp DH CX k f fd ps sp)(w:HZ k)(J:Ii)(A:ID=Ex f)(Z:Amb Ar f=Aa)(T:Bcy fd ps ds)(j:Bgh)(O:Atb)(a:Gu=Af:=by decide):[Ef,Jp [] Bv,sgu sp dvs E saO]:=by rw[UZ];show xx (Bei J A a);show sez RR Z (dt F w T j O I BY h)
def agn{pl:Sem Bh}(Y:Bjx o)(c:v_ Ar C)(L:saN Ar C m f)(F:sR By BD Ar Fp DH CX k f fd ps sp)(w:HZ k)(T:Bcy fd ps ds)(j:Bgh)(O:Atb)(M:Bhw t)(U:Ayd=Sb::Rl:=by rfl)(d:Aop Bv (Rl)=Af:=by rfl)(Z:Du (Hk (Buj o m) Ash Bv)=(do let b<-eval o X.env;standAt apos.atName;let(f,g)<-holding [b] (getMethod b m pl);callWith pos f g (backTo pos (starEach (e::es) X.env)) (backToKw pos (keywordEach [] X.env))):=by rfl):[Ef,Hk (Buj o m) Ash Bv,sgv C m sp dvs E ta t]:=by rw[UZ];show sgx [Cr,Y _ s _ H _ I h,λu v⟨x,n,A,i,a,_,_,P,N,l,q⟩=>?_] Z;subst P;obtain rfl:u=RX:=i;show qO A N c L l ?_;show sbD Bpd L.kp [Cr,M _ _ _ _ _ _ A q,λW B⟨J,_,G,r,R⟩=>FY G.aF] U d;show dt (vs:=Be::J) F w T j O G [NT,Ab,r] R
def ago(Y:Bjx o)(c:v_ Ar C)(B:saN Ar C m f)(F:sR By BD Ar Fp DH CX k f fd ps sp)(w:HZ k)(T:Bcy fd ps ds)(j:Bgh)(O:Atb)(L:Du (Hk (Buj o m) [] Bv)=(do let b<-eval o X.env;standAt apos.atName;let(f,g)<-holding [b] (getMethod b m pl);callWith pos f g (backTo pos (starEach [] X.env)) (backToKw pos (keywordEach [] X.env))):=by rfl):[Ef,Hk (Buj o m) [] Bv,sgv C m sp dvs E ta saO]:=by rw[UZ];show sgx [Cr,Y _ s _ H _ I h,λu M⟨x,_,A,R,a,_,_,J,G,l,q⟩=>?_] L;subst J;obtain rfl:u=RX:=R;show qO A G c B l ?_;show sez A.aF B.kp (dt (vs:=[Be]) F w T j O A (EJ Ab) q)
structure Mk(K:PySem.W.Frag)(C f:Addr):Al where
 makes:Det C=Aa
 init:Qj Aco=Ln f
 fn:Crw Afd=Aa
 kp:Bxh K Lh=Aa
def qS{D:St}(M:Mk Ar C f)(F:sR By BD Ar Fp DH CX k f fd ps sp)(w:HZ (k+1))(T:Bcy fd ps ds)(B:Bgh)(O:Atb)(I:Eo)(r:Ku J)(h:∀x Y,H x=Ad->H Y=Ad->Y≠x->sp (OX::(J++dvs)) [Abr,Ei Y (Lu x),x,Aaa Y []] (λv j=>v=Bt/\Q (OX) j) E):FM (call Mf W) (EP X S D Q):=by
 let Z:=h _ _ (Akn (sc8 _)) (Adv) Ag;let G:=Inv.made (C:=C) I;let P:sJ (V.ref (AR+1)::(J++dvs)) _:=Jo Ab (Can B);let U:HA (Kj Ac::W) ds=Bqg:=by let e:=P.length;rw[TV,F.len _ _ _ _ Z];grind
 show saP (agc RR M.makes M.init (sey.mp M.fn) (Bts (F.run _ _ _ _ _ _ _ _ E (w.make ..) (G.gd.make ..) (T _ _ G.aF U) P Z) r d b));cases r with|error e=>show O _ _ _ _ e _ G b|ok i=>cases i with|ret u=>rw[TZ,v,L,A,R,a,q,G.after b];subst a;rw[Th,R,DP (V.ref _) _ A q]|next=>show Sv b|brk=>show Sv b|cont=>show Sv b
def qT(M:Mk Ar C f)(F:sR By BD Ar Fp DH CX k f fd ps sp)(w:HZ (k+1))(J:Ii)(G:ID=Aug)(T:Bcy fd ps ds)(j:Bgh)(O:Atb)(B:Bhw t)(a:Gu=Af:=by decide)(Y:Ayd=Sb::Rl:=by rfl)(d:Aop Bv (Rl)=Af:=by rfl):[Ef,Jp Ash Bv,sgw C sp dvs E t]:=by rw[UZ];show xx (Bei J G a);show sbD (h₀:=X.base) Bpd M.kp [Cr,B Bv S s D H _ I h,Dfj L [FY,A.aF]] Y d;show qS M F w T j O A r q
def agp(M:Mk Ar C f)(F:sR By BD Ar Fp DH CX k f fd ps sp)(w:HZ (k+1))(J:Ii)(A:ID=Aug)(T:Bcy fd ps ds)(j:Bgh)(O:Atb)(a:Gu=Af:=by decide):[Ef,Jp [] Bv,sgw C sp dvs E saO]:=by rw[UZ];show xx (Bei J A a);show sez RR M.kp (qS M F w T j O I BY h)
end
section
variable{X:Cx}{CX:yR}{k:Nat}{f C:Addr}{fd:FuncData}{ps ks:List Str}{sp:Sp}{E:XK}{x m:Str}{p pos apos kpos:Pos}{e o:Expr}{es:List Expr}{kws:List Keyword}{te ta:TE}{t tk:TA}{nm:Option Str}
variable{g:List Value->List Value->List Value}{gV:List V->List V->List V}
end
structure sc9(N P:Dl)(sc:Scope):Al where
 kind:sc.kind=Oh
 co:sc.isCoroutine=Af
 gen:sc.isGenerator=Af
 nd:GW N
 pre:N.take Atk=P
 par:∀x∈P,Cgp x=Fy\/Cgp x=Hr
 sla:∀y∈sc.names,y.2≠Kr
def qU{kindOf:BG->Awt}:∀{b:Na Eh}{m:BG->EU},(∀v,(x,v)∉b)->bindL Awo b m x=m x
|[],_,_=>rfl
|(n,v)::r,m,h=>by
 unfold bindL;rw[qU λw Y=>h w (MA Y)];split
 ·let:x≠n:=by rintro rfl;show h v zB
  simp[this]
 ·rfl
def qV{kindOf:BG->Awt}:∀{b:Na Eh}{m:BG->EU},(∀v,(x,v)∉b)->bindC Awo b m x=m x|[],_,_=>rfl|(n,v)::r,m,h=>by rw[bindC,qV _];split;all_goals grind
def qW{kindOf:BG->Awt}:∀{P:Dl}{J:BA}{i:Nat}{m:BG->EU},GW P->P[i]?=Bi->Bwf=Fj->Cei x=Fy->bindL Awo (Clz) m x=Fj|[],_,_,_,_,h,_,_=>Aq|_::_,[],_,_,_,_,h,_=>Aq|p::P,w::J,0,m,k,G,z,Z=>by simp at G z;subst G;subst z;change bindL _ ((p,w)::P.zip _) m p=_;rw[bindL,qU λv O=>(yS.mp k).1 (seA O).1,Av Z];simp|p::P,w::J,i+1,m,k,G,z,Z=>Bzc bindL (qW (i:=i) Ag Ag Ag Z)
def qX{kindOf:BG->Awt}:∀{P:Dl}{J:BA}{i:Nat}{m:BG->EU},GW P->P[i]?=Bi->Bwf=Fj->Cei x≠Fy->bindC Awo (Clz) m x=Fj|[],_,_,_,_,h,_,_=>Azs|_::_,[],_,_,_,_,h,_=>Azs|p::P,w::J,0,m,k,G,z,Z=>by simp at G z;subst G;subst z;change bindC Awo ((p,w)::Clz) m p=_;unfold bindC;rw[qV λv O=>(yS.mp k).1 (seA O).1,AF Z];simp|p::P,w::J,i+1,m,k,G,z,Z=>by change bindC Awo ((p,w)::Clz) m x=_;unfold bindC;show qX (i:=i) (yS.mp k).2 Dcc (by simpa using z) Z
def start(N:Dl)(J:Ba):St:=J.map Aul++Azb (AG N-BR)
def u3(a:yR)(P:Program)(W:World)(K:PySem.W.Frag)(n:BG->EU)(C:Heap)(G:Dl)(L:Str)(B:Scope)(f:Addr)(O:Value)(F:Around)(X:Ox)(s:Shared)(H:Hp)(E:XK):Cx where
 prog:=P
 w:=W
 K:=K
 mg:=n
 base:=C
 A:=F.deeper (Alh L B f O)
 N:=G
 wr:=s
 xv:=H
 env:=Alh L B f O
 outer:=X
 stack:=Alh L B f O::X
 ex:=[]
 calm:=true
 fn:=CJ
 pn:=[]
 xe:=λe d=>EQ (model P W) (F.deeper (Alh L B f O)) [Cvw,(Alh L B f O),e] [KJ,S,a X H s E e S] (λD S=>a X H s E D S) d
def k8{i:Scope}(h:Agc x=Hr):∃c,JK (Bom n i.names []) x=AW:=Option.isSome_iff_exists.mp (Ddy n [] (OJ))
def agq{K:PySem.W.Frag}(S:sc9 N l B)(j:Bbp=Ad)(g:v5 P w K n C A X s H)(U:BR=Ah)(r:Ku J)(x:InCallC s AR (bindL (Alh L B f O).kindOf (Aaj W) Cmj) (Aon (AR+1) []) (bindC (Alh L B f O).kindOf (Aaj W) Cmj) m):Inv (u3 a P w K n C N L B f O A X s H E) [] (Bsw J) H m:=by
 let d:Ah<=AG N:=by let:=Cfw S.pre;grind
 obtain⟨G,tk,rfl,Z⟩:=x.done;rw[TW,I,∀b,Aib (u3 a P w K n C N L B f O A X s H E).ex,b,z,Qi (Cvi b ([]))];show⟨⟨g.mod,S.kind,Ab,Ab,Ach,EA y z c G D,AV y Q,BV y c _ h,Ej j,Daf g,Bhg Ab,KW z [JA,z,(I b)],g.bs,g.wu,HM _ _ (I b),KW z [JA,z,(I b)],g.aN,g.vX⟩,Ab,PQ g,Un.kept Z,HV x.toInCall.ns [HF,i,y,v,G,D,T],λy c h=>Ke (x.cell y c h),Cvb Do,Bz y c h,Kg [Qi,(Cvj p ([]))],g.sv.kept Z,?_⟩;·show name_of_addr x.apart (u7 G) (u7 D)
 ·rw[Yg];·show k8 Q
  ·rw[T',Ab,(S.sla _ (u7 Q))]
 ·show sby (x.above y c (u7 h))
 ·let t:i<BR:=by grind[start]
  let M:Bwf=Fj:=by grind[start]
  rw[UT,F,R,r.get M];let Y:Bfs=Nc:=by rw[<-S.pre,sda Ac];show G
  let o:GW l:=by rw[<-S.pre];show Csr (sgy _ _)
  show HS u R;rcases S.par y (tV Y)with k|k;·show FJ k (qW o Y F k)
  ·rw[Tc,c,e,k8 k];rw[TN,⟨AK k,c,e,?_⟩];let q:=x.cell y c e;rw[UI,qX o Y F (by change Agd y≠_;rw[k];decide)];show q
 ·show Cvb (sby (x.above y c (u7 h)))
 ·unfold start;change _=AG N;rw[su,sr,siU];omega
def qY{K:PySem.W.Frag}{kV:Value}(lk:Agn f=Ae [AO,oc,D,.func (PySem.W.fnOf O L p j B dV kV C0 pm an z ct),I0])(G:Cfv z L=Aa)(S:sc9 N l B)(W:∀vs H Q E,c vs H Q E->Cuf=Ah)(D0:∀(A:Around)(X:Ox)(s:Shared)(H:Hp)(vs:Ba)(Q:VK)(E:XK),tS k (Bkh (Alh L B f z))->c vs H Q E->∃t,vm (u3 CX P w K mg C N L B f z A X s H E) j t/\t [Chf,M,Q Bt M] (Bsw vs) H):sR P w K mg C CX (k+1) f (PySem.W.fnOf O L p j B dV kV C0 pm an z ct) l c:=by
 rw[Th,W,λA X s H G0 us vs Q E hr g T r l0=>?_];let U:=W _ _ _ _ l0;let h:Awd:=g.mod.sc_.keeps [MF,(g.bs b o e).1];let F:Crc:=Daj (g.bs b o e).1;let E0:∀y∈Aaj us,Agd y.1=Fy\/(Agd y.1=Hr/\OC (JK (Aon (AR+1) []) y.1)=Aa):=λ⟨n,v⟩hy=>by
  rw[Wr,S.par n (seA hy).1];·rw[TB,q]
  ·show Kq q [Ddy,_,_,(AK q)]
 show codeAny_call_function hr.depth (h _ _ lk) Ab S.co S.gen Ab (PySem.W.codeRec_of h G) (T _ _ _ _ ?_);show wpAny_newFunctionEnv_cells S.kind E0 [BV,H0,Y,m,x];subst Y;rw[Th,F.keeps x.toInCall.keep,codeAny_func ?_];rw[Te,t,ht,Z,D0 A X s H vs Q E (hr.deeper _) l0];let I:Inv (u3 CX P w K mg C N L B f z A X s H E) [] (Bsw vs) H m:=agq S hr.hd g U r x;show OO (ht [] m (Bsw vs) H _ I Z) (Bz i d hs) e d hs hs;let R:∀{a:St}{M:Hp}{v:V}{u:Value},Inv (u3 CX P w K mg C N L B f z A X s H E) [] a M d->KQ->Q v M->CE X P w H s Q u d:=λ{a M v u}J rv q=>DB v M J.os [PQ,J] J.base J.sv rv q;cases i with|ret u=>obtain⟨v,a,M,J,rv,q⟩:=hs;show R J rv q|next=>obtain⟨a,M,J,q⟩:=hs;show R (v:=V.sD) (u:=Value.none) J Ab q|brk=>obtain⟨_,_,_,q⟩:=hs;show Sv q|cont=>obtain⟨_,_,_,q⟩:=hs;show Sv q
section
variable{X:Cx}{x:Str}{p pos:Pos}{e:Expr}{es:List Expr}{t:TA}{id T:String}{r:List V->Hp->VK->Prop}
def sgz(r:Qg)(t:TA):TE:=λD H Q=>t D H λJ n=>r J n Q
def agr(L:LQ (Asd) r)(J:Ii)(B:ID=Ad)(O:Bxv=As Asd)(M:Bhw t)(f:x≠Biz:=by decide)(a:Gu=Af:=by decide)(Y:Ayd=Sb::Rl:=by rfl)(d:Aop Bv (Rl)=Af:=by rfl):[Ef,Jp Ash Bv,sgz r t]:=by rw[UZ];show xx (f7 I J B O ?_ f a);show PyProof.Rows.callWith_builtin1 [Cr,M _ _ s _ H _ I h,Dfk m (L _ _ _ _ _ _ Q A g U)] Y d
def ags(L:LQ (DN T) r)(J:Ii)(B:ID=Ad)(O:Bxv=As [DN,T])(M:Bhw t)(f:x≠Biz:=by decide)(a:Gu=Af:=by decide)(Y:Ayd=Sb::Rl:=by rfl)(d:Aop Bv (Rl)=Af:=by rfl):[Ef,Jp Ash Bv,sgz r t]:=by rw[UZ];show xx (f7 I J B O ?_ f a);show sex [Cr,M Bv S s D H _ I h,Dfk m (L S m D n v W Q A g U)] Y d
end
end L2
namespace HT
open PySem PyProof.Rows
section
open PySem.SeqAt
open PySem.AutoSeq1(wpAny_loadPart')
open PySem.MeetsSeq PySem.MeetsSeq2 PySem.MeetsSeq3
end
section
variable{prog:Program}{w:World}{A:Around}{E:Value->Shared->Prop}{s:Shared}
def agt(I:IsTup Bg t [HU,J])(T:IsTup Bg b [HU,l])(O:Abt J)(G:l=[]->Q (RK) s)(z:Abt l->Q (PR) [Sz,Acg [Ays,HU (J++l)]])(r:Cu (BR+Ah)):MB (binaryOp .Add (RK) (Nv)):=by
 rw[Tk,⟨a,f,d,y⟩,Z,L,n,j,id I];rw[Tk,⟨C,e,data2,k⟩,c,H,N,V,id T];subst L j H V;rw[Td,Y,l=[]];·show Cpy Ble [Oi,c] sgA sgB sgC (sgD ..) (tuple_addW1 t b _ _ n _ _ _ _ _ Ag Ag) [Am,Z,c,G Y]
 ·show [Cpy,Ble,Oi c,sgA,sgB,sgC,(sgD ..),(tuple_addW2 t b _ _ n _ _ _ _ _ Ag Ag Ag),HS Z c];grind
def tW(n d:Nat):IJ->Aw|none=>d|some v=>[Gz,v<0,DQ (v+LD),min Ahm n]
def agu(n d:Nat):tW n d Ad=d:=rfl
def agv(n d k:Nat):tW n d (Ae Ey)=min k n:=Ch
def agw(n d:Nat)(j:d<=n)(o:IJ):tW n d o<=n:=by
 cases o with
 |none=>show j
 |some v=>
  change([Gz,v<0,DQ (v+LD),min Ahm n])<=n;rw[Td,O,v<0];·rw[Av O];omega
  ·rw[AF O];show Nat.min_le_right _ _
def qZ(v:Int)(n d:Nat):[Cv,v<0,Aux (v+LD),min v LD]=Ay (tW n d Abe):=Chy ([Cv,v<0,Aux _,min v n]=((([Gz,v<0,DQ (v+n),min _ n]))))
def agx(lo V:IJ)(n:Nat):Dby lo V LD=(Ay (tW n 0 lo),Ay (tW n n V)):=by
 unfold Builtin.Slice.sliceAdjust;show wN ?_ ?_;·cases lo with|none=>rfl|some v=>grind[qZ]
 ·cases V with|none=>rfl|some v=>grind[qZ]
def agy(i j:Nat):Dav MC [Au,j]=j-i:=Cfz Builtin.Slice.slicePlaces
def q_(p:Bex v o)(h:Q o s):MB (Builtin.Slice.slicePartIndex v):=by cases p with|none=>show slicePart_none h|int i t=>show slicePart_int h
def agz{lo:IJ}{Q:Bzt (Bm×Bm×Aw)}(P:Cqx y o d)(c:Bex o lo)(M:Bex d V)(h:Q (Ay (tW n 0 lo),1,tW n n V-tW n 0 lo) s):MB (Builtin.Slice.sliceApplied (AC y) (Ek LD)):=by rw[Tj,os,b,u,i,id P];rw[W_,saQ b i Ab [Ib,saQ b i Ab [Ib,saQ b i Ab OV]]];rw[To,slicePart_none ?_];rw[To,q_ c [Ib,q_ M [Ib,Mb]]];change EK _ _ (match Dby _ _ n with|(lo,V)=>Ek (lo,Apb,Dav lo V)) _ _;rw[agx ..];grind[agy,wpAny_pure]
def agA(C:Aae)(i k:Nat):HU (Bcc [Pp,k] λ(m:Nat)=>C[DQ (MC+Au m*1)]?)=HU (Hu (C.toList.drop i) k):=by
 rw[Tq,e,(λ(m:Nat)=>C[DQ (i+Au m*1)]?)=λm=>C[i+m]?]
 let:=pick_run C i k;rw[Ti,N,((λx=>C[x]?)∘λx=>i+x)=λm=>C[i+m]?];grind
def agB{lo:IJ}(I:IsTup Bg t a)(P:Cqx y o d)(c:Bex o lo)(M:Bex d V)(Y:¬(Aen=0/\Bho V=Bas))(h:Q (PR) [Sz,Acg [Ays,HU (Cqn (Aen) (Bho V-Aen))]])(r:Cu Bas):MB (Cec (RK) (AC y)):=by
 let e:sizeOk (MN [HU,(Cqn (Aen) (Bho V-Aen))]):=by change Cu [Bbf,(Cqn (Aen) (Bho V-Aen))];rw[xy,ug,zH,sgE];omega
 let C:Bho V<=Bas:=agw _ _ Do V;rw[Tj,os,b,u,i,id P];let D:Bck (AC y) "slice":=Am os b u;unfold getItem;try with_reducible show sdb ?_
 first|rw[To,Mb]|skip
 rw[To,wpAny_sequenceKey Cwr Dc ?_];rw[To,seB (name:=Aps Deq) Cwr seC (Atc seC Cwr entry_tuple_getitem (args_tuple_getitem _ _))];change EK _ _ (Builtin.Tuple.tupleItemsOf (RK)>>=_) _ _;rw[To,tupleItemsOf_ I ?_];rw[To,wpAny_typeOf D ?_];rw[Av Dc];rw[To,agz P c M ?_];let H:¬((Ay Aen==0&&Apb==1&&(Bho V-Aen)==Bas)=Aa):=by intro q;rw[Vo,q];let U:Ay Aen=0:=BO (CG).1;let R:Bho V-Aen=Bas:=BO JU;show Y [Aj,AE,AE]
 change EK _ _ (Iz ((Ay Aen==0&&Apb==1&&(Bho V-Aen)==Bas)=Aa) _ _) _ _;rw[AF H,agA];first|show Cog _ (yT (Buw Buv) e)|show Cog _ (yT [Ib,Fv (Buw Buv)] e)|rw[To,Cog _ (yT (Fv (Buw Buv)) e)]|rw[To,Cog _ (yT (Buw Buv) e)]
end
end HT
namespace L2
open PySem PySem.Spec PyProof.Rows
abbrev TO:=St->Im Hp (LC IJ)
def PO(X:Cx)(e:Jz Expr)(t:TO):Al:=[Dae,LC IJ,Eo->t D H Q->FM (evalPart e Di) (λu d=>∃o M,QC M d/\Bex u o/\Q o M)]
def slb:TO:=LU H Q [Ov,Ad]
def slc(t:TE):TO:=λD H Q=>t D H λx n=>∃i,x=CI/\Q (Ju) n
section
variable{X:Cx}{e:Expr}{te:TE}{lo hi:Option Expr}{tl th:TO}{pos p2:Pos}
def re:PO X Ad slb:=Bpu [Fv,Lv _ I BM h]
def iA(h:Bhe e):PO X (Ae e) (slc te):=by rw[Xe,D,Q,Y];show Big (h _ s _ H _ I Y) u m;rw[VD,i,rfl,q];rw[WW,t,rfl];rw[TU,_,_,A,Aji i,q]
def zI(X:Cx)(r:V->IJ->Rn IJ):Al:=∀(S:D_)(s:Shared)(D:St)(H:Hp)(x:V)(v o d:Value)(lo hi:IJ)(y:Addr)(Q:VK),Eo->Akb->Cqx y o d->Bex o lo->Bex d hi->r x lo hi H Q->∃T id,typeLookup (DN T) Deq=Ek [Ada,Asd]/\Bck v T/\FM (Cec v (AC y)) (EP X S D Q)
theorem zI.or(h:zI X r)(g:zI X F):zI X (λx lo hi H Q=>r x lo hi H Q\/F x lo hi H Q):=by
 intro S s D H x v o d lo hi y Q I m P c M q;rw[Xs];·show h S s D H x v o d lo hi y Q I m P c M q
 ·show g S s D H x v o d lo hi y Q I m P c M q
def tSl(r:V->IJ->Rn IJ)(te:TE)(tl th:TO):TE:=λD H Q=>te D H λx n=>tl D n λl j=>th D j λu R=>r x l u R Q
def lg(w:zI X r)(Y:Bhe e)(U:PO X lo tl)(F:PO X hi th):[Ef,Agl e (.Slice lo hi Ad p2) Bv,tSl r te tl th]:=by rw[UZ];show Subscript_ [Cr,Y _ s _ H _ I h,λv m⟨x,n,A,g,O⟩=>?_];show wpAny_Slice [Cr,U _ _ _ _ _ A O,λo B⟨l,j,G,c,R⟩=>Jf (F _ _ _ _ _ G R) λd N⟨u,P,p,M,t⟩=>?_];show Mb;let C:Inv X _ _ _ [Ctk,Ctl [Aqz,"slice",#[o,d,BM]]]:=p.kept [HM,W,q,Atx];rw[Tk,T,id,E,L,J,w _ _ _ _ x v _ _ l u _ Q C g (Heap.IsSliceOf.new ..) c M t];show tail_any L E J Em
def saR(C:Ba)(lo hi:IJ):Ba:=Hu (C.drop (Aqx BC 0)) (HT.tW BC BC hi-Aqx BC 0)
def rg(C:Ba)(lo hi:IJ):An (saR C lo hi)<=BC:=by grind[saR]
def siV(K:PySem.W.Frag):V->IJ->Rn IJ:=λx lo hi H Q=>∃a C,x=Be/\NS K C/\¬(Aqx BC 0=0/\HT.tW BC BC hi=BC)/\∀p,H p=Ad->Q Abf (Pd (HJ (saR C lo hi)))
def eM:zI X (siV Ar):=by
 intro S s D H x v o d lo hi y Q I m P c M h;rw[WQ,a,C,O,Y,q];rw[Uk];rw[Vy,i,r,E,B,O];let k:Bbf i=BC:=by rw[xy];show r.length.symm
 show Bcm Afv seC.lookup E.typeIs;show HT.agB E P c M (by rw[k];show Y) ?_ (by rw[k];show B);rw[k];show DP PR _ [Daa,saR C lo hi,(HM A q Atx),Do] (q _ (Adv));rw[Ts,EI (rg C lo hi) B,_,Hu (r.drop (Aqx BC 0)) (HT.tW BC BC hi-Aqx BC 0),Cih _]
def siW(K:PySem.W.Frag):R2:=λx y H Q=>∃a b C O,x=Be/\y=Nv/\NS K C/\vZ K H b O/\Abt C/\Cu (BC+LF)/\(O=[]->Ov Gk)/\(Abt O->∀p,H p=Ad->Q Abf (Pd (HJ (C++O))))
def sJ.iB(r:Qr):W=[]↔C=[]:=by rw[Uj]<;>grind
def agC:Bme Bsj (siW Ar):=by intro S s D H x y v u Q I m r h;obtain⟨a,b,C,Y,rfl,rfl,M,T,O,B,U,R⟩:=h;rw[Uk];rw[Uj];rw[Vy,i,g,p,_,M];rw[Vy,d,P,p2,_,T];show HT.agt p p2 [GK,O (g.iB.mp z)] [GK,DP Be H I (U (P.iB.mp z))] (Axc) (by rw[<-Abk,<-Atk];show B);show DP PR _ [Daa,C++Y,(HM A q Atx),Do] (R (λw=>z (P.iB.mpr w)) _ (Adv));rw[Ts,by rw[su];show B,_,g.append P,Cih _]
end
def sdc(n:Nat)(i:Int):Aai:=DZ (0<=i) [Cv,i<n,Ae JT,Ad] [Iz,-LD<=i,Ae [DQ,i+n],Ad]
def zJ{J:Bq}(C:LJ)(i:Int):Jz J:=Ati (sdc BC i) λj=>C[j]?
def agD(h:sdc n i=Ae j):seqIndex? i n=Ae j/\j<n/\-LD<=i/\i<n:=by
 rw[Tu,sdc];rw[Td,H,0<=i]
 ·rw[Va,i<n];·grind[seqIndex_of]
  ·grind
 ·rw[UY,H];rw[Va,-n<=i];·rw[Vq,G];let e:=Akx;rw[Ts,Hy (seqIndex_neg Ac G) e,AE,G,AE]
  ·rw[UY,G];rw[Tf]
def lh{v:J}(h:zJ C i=Fj):∃j,seqIndex? i BC=Ae j/\C[j]?=Fj/\j<BC/\-Au BC<=i/\i<BC:=by rw[Tu,zJ];cases e:sdc BC i with|none=>rw[Tg,e];rw[Tf]|some j=>rw[Tg,e];rw[Tj,G,z,F,D,agD e];show Ds j G h z F D
def rh{j:Nat}{v:J}(h:C[j]?=Fj):zJ C [Au,j]=Fj:=by let H:=Abh;simp_all[sdc,zJ]
def sdd(b:Expr):Al:=∀o i,subscripted b Af o i=operate [o,i] (Cec o i)
def wO(X:Cx)(r:R2):Al:=∀(o l:Expr)(S:D_)(s:Shared)(D:St)(H:Hp)(x y:V)(v u:Value)(Q:VK),Eo->Akb->OZ->r x y H Q->subscripted l Af v u=operate [v,u] (Cec v u)->FM (subscriptTail o l v u) (EP X S D Q)
def yU(X:Cx)(id:String)(r:V->Qg):Al:=Cyh Ba BA (Eo->Akb->Qr->r x C H Q->FM (Ajd Asd (v::W)) (EP X S D Q))
section
variable{X:Cx}{a b:Expr}{ta tb:TE}{pos:Pos}
theorem wO.or(h:wO X r)(g:wO X F):wO X (λx y H Q=>r x y H Q\/F x y H Q):=by
 intro o l S s D H x y v u Q I m R q P;rw[Xs];·show h _ _ _ s _ H x y v u Q I m R q P
 ·show g _ _ _ s _ H x y v u Q I m R q P
theorem yU.or{id:String}(h:yU X id r)(g:yU X id F):yU X id (λx C H Q=>r x C H Q\/F x C H Q):=by
 intro S s D H x C v W Q I m J q;rw[Xs];·show h _ s _ H x _ v _ Q I m J q
 ·show g _ s _ H x _ v _ Q I m J q
def ri(w:wO X r)(M:Akc)(T:Atl b)(P:sdd b):[Ef,Agl a b Bv,sbB r ta tb]:=Bpu (Subscript_ (kU M T I h λv u B x y j G m R q=>w a b S B D j x y v u Q G m R q (P _ _)))
def siX(K:PySem.W.Frag):R2:=λx y H Q=>∃p C i v,x=SO/\y=CI/\Pl p C/\zJ C i=Fj/\Ov v
def siY(K:PySem.W.Frag):R2:=λx y H Q=>∃p C i v,x=SO/\y=CI/\vZ K H p C/\zJ C i=Fj/\Ov v
def siZ:R2:=λx y H Q=>∃z i c,x=Cw z/\y=CI/\Cu LH/\zJ z.cps.toList i=AW/\Jn Cmh
def agE:wO X (siX Ar):=by
 intro o l S s D H x y v u Q I m O h P;obtain⟨p,T,i,z,rfl,rfl,Z,Y,q⟩:=h;rw[Uk];obtain⟨t,rfl⟩:=O;rw[VB,N,r,c,B,Z];rw[TZ,j,G,E,F,J,L,lh Y];rw[Te,w,e,M,r.get E];rw[Xi,U];let f:=gc;let R:EP X S D Q w s:=Lv z I M q;rw[Td,A,0<=i]
 ·let C:JT=j:=by rw[T_,seqIndex_of A L];show GF G
  show item_listR Cae A Ac [Del,C] R P
 ·let C:DQ (i+Au [Bbf,N])=j:=by rw[T_,seqIndex_neg Ac J];rw[xy,<-U];show GF G
  show subscriptTail_builtinR (x:=w) c.isList.typeIs Czy (wpAny_getItem_list_neg (Q:=λr d=>r=w/\EP X S D Q r d) Cae Ac (by rw[xy]<;>omega) Ac [Del,C] [Q_,R]) P
def agF:wO X (siY Ar):=by intro o l S s N H x y v u Q I m E h P;obtain⟨p,C,i,z,rfl,rfl,Z,Y,q⟩:=h;rw[Uk];obtain⟨t,rfl⟩:=E;rw[Vy,J,r,c,B,Z];rw[TZ,j,G,A,F,D,L,lh Y];rw[Te,w,e,M,r.get A];rw[Xi,U];let f:=gc;let R:EP ..:=Lv z I M q;show subscriptTail_builtinR c.typeIs seC.lookup (getItem_tuple (j:=j) c Ac Ac Ag Ag [Q_,R]) P
def agG:wO X siZ:=by
 intro o l S s C H x y v u Q I m R h P;rw[WU,z,i,c,rfl,B,Y,q];rw[UQ];rw[U_];rw[TZ,j,G,A,F,D,L,lh Y];let U:z.cps.toList.length=LH:=Ch
 rw[U]at G D L;let f:=gc;show tail_any (typeIs_str s z t) slot_str_getitem.lookup (getItem_str Ag (by rw[G];simpa using A) [Bds,Cmh,q]) P
def si_(K:PySem.W.Frag):R2:=λx y H Q=>siX K x y H Q\/siY K x y H Q\/siZ x y H Q
def agH:wO X (si_ Ar):=agE.or (agF.or agG)
theorem Inv.lst{D:St}(I:Eo)(h:H p=FH C):Csj (sJ C i/\Ev p=Ae [Apm,Adj,Clk]/\Cu BC):=by rw[Tk,z,i,n,r,e,Asj p h];rw[TU,i,n,r,e,z]
def agI(lo H:IJ)(n:Nat):(Cus H Ad n).1=Ay [Aqx,n,0]/\(Cus H Ad n).2.1=Ay (HT.tW n n H)/\(Cus H Ad n).2.2=1:=by
 show⟨?_,?_,Ab⟩
 ·cases lo with
  |none=>simp[sliceBounds,HT.tW]
  |some i=>
   simp only[sliceBounds,HT.tW,sgF,show Apb>0 by decide,tF];rw[Tv,i<0];·rw[UC,h,tF]<;>omega
   ·rw[UC,h,tO]<;>omega
 ·cases H with
  |none=>simp[sliceBounds,HT.tW]
  |some i=>
   simp only[sliceBounds,HT.tW,sgF,show Apb>0 by decide,tF];rw[Tv,i<0];·rw[UC,h,tF]<;>omega
   ·rw[UC,h,tO]<;>omega
def agJ(i:BA)(lo H:IJ):slicePick Ahg lo H Ad=HU (Hu (i.drop (Aqx Ans 0)) (HT.tW Ans Ans H-Aqx Ans 0)):=by rw[Te,G,z,F,agI ..];rw[slicePick,G,z,F];rw[UC,sliceRange_one,pick_run]<;>rfl
def si0(K:PySem.W.Frag):V->IJ->Rn IJ:=λx lo h H Q=>∃a C,x=Be/\Pl a C/\∀p,H p=Ad->Q Abf (Pd [DK,saR C lo h])
def agK:zI X (si0 Ar):=by intro S s D H x v o d lo F y Q I m P c M h;rw[Vx,a,C,O,q];rw[Uk];rw[VB,i,r,E,B,O];rw[Xi,k];show Bcm _ Czy E.isList.typeIs;show wpAny_getItem_list_slice E.isList P c M BM AN ?_ Ag;rw[agJ,<-k];show[DP,Amy,_,I.laid (HM A q Atx) Do ?_,q _ (Adv)];rw[TU,EI (rg ..) B,_,0,Hu (r.drop _) _,IE]
def wP:BU V|.sD=>true|.bl _=>true|.int _=>true|.str _=>true|_=>false
def yV:V->BU V|.sD,.sD=>true|.bl a,.bl b=>a==b|.bl a,.int b=>Cv a 1 0==b|.int a,.bl b=>a==Cv b 1 0|.int a,.int b=>a==b|.str a,.str b=>a==b|_,_=>false
def agL(R:OZ)(m:Akb)(f:wP y=Aa)(n:wP x=Aa):SeqAt.EqAt A s u v (yV y x):=by
 cases y with
 |sD=>rw[Ue];cases x with|sD=>rw[Uk];show SeqAt.EqAt.same _|bl b=>rw[Uk];show SeqAt.EqAt.none_bool b|int b=>rw[UQ];show SeqAt.EqAt.none_int b t|str b=>rw[UQ];show SeqAt.EqAt.none_str b t|_=>rw[Ug,Bzg Af Aa,yW]
 |bl a=>rw[Ue];cases x with|sD=>rw[Uk];show SeqAt.EqAt.bool_none a|bl b=>rw[Uk];show SeqAt.EqAt.bool_bool a b|int b=>rw[UQ];show SeqAt.EqAt.bool_int a b t|str b=>rw[UQ];show SeqAt.EqAt.bool_str a b t|_=>rw[Ug,Bzg Af Aa,yW]
 |int a=>rw[U_];cases x with|sD=>rw[Uk];show SeqAt.EqAt.int_none a d|bl b=>rw[Uk];show SeqAt.EqAt.int_bool a d b|int b=>rw[UQ];show SeqAt.EqAt.int_int a d b t|str b=>rw[UQ];show SeqAt.EqAt.int_str a d b t|_=>rw[Ug,Bzg Af Aa,yW]
 |str a=>rw[U_];cases x with|sD=>rw[Uk];show SeqAt.EqAt.str_none a d|bl b=>rw[Uk];show SeqAt.EqAt.str_bool a d b|int b=>rw[UQ];show SeqAt.EqAt.str_int a d b t|str b=>rw[UQ];show SeqAt.EqAt.str_str a d b t|_=>rw[Ug,Bzg Af Aa,yW]
 |_=>rw[Ug,Ciw Af Aa,yW]
def yX(x:V)(u:Value):Bh:=match u with|.none=>yV Bt x|.bool b=>yV (Mz) x|.int i _=>yV OU x|.str z _=>yV (Cw z) x|_=>false
def rj(r:OZ)(f:wP y=Aa):yX x u=yV y x:=by cases y with|sD=>rw[Uj];rfl|bl b=>rw[Uj];rfl|int i=>rw[VN,t];rfl|str z=>rw[VN,t];rfl|_=>rw[Ug,Ciw Af Aa,Ag]
def li:∀{C:Ba}{W:BA},Qr->C.all wP=Aa->W.any (yX x)=C.any λy=>yV y x|_,_,.nil,_=>rfl|y::C,u::W,.cons r t,f=>by rw[Vp,f];rw[wQ,wQ,rj r f.1,li t f.2]
def lj(m:Akb)(n:wP x=Aa):∀{C:Ba}{W:BA},Qr->C.all wP=Aa->∀u∈W,SeqAt.EqAt A s u v (yX x u)
|_,_,.nil,_=>λu F=>by cases F
|y::C,u::W,.cons r t,f=>λP F=>by
 rw[Vp,f];rcases FI F with rfl|F;·rw[rj r f.1];show agL r m f.1 n
 ·show lj m n t f.2 P F
def seD(x:V)(C:Ba):Bh:=C.any λy=>yV y x
def si1(K:PySem.W.Frag)(E:Bool):R2:=λx y H Q=>∃p C,y=SO/\(Pl p C\/vZ K H p C)/\wP x=Aa/\C.all wP=Aa/\Jn [Ff,[Cv,E,! seD x C,seD x C]]
def agM:Ayv .In (si1 Ar Af):=by
 intro S s D H x y v u Q I m R h;obtain⟨p,C,rfl,Z,n,F,q⟩:=h;rw[Ue];rw[Yf];·rw[VB,i,r,c,B,Z];show SeqAt.in_listAt (yX x) Cae (λw Y=>lj m n r F w (by rw[XG])) ⟨Bel,H,I,Ab,?_⟩;rw[show i.toArray.any (yX x)=i.any (yX x)by simp,li r F];show q
 ·rw[Vy,i,r,c,B,Z];show SeqAt.in_tupleAt (yX x) c (λw Y=>lj m n r F w (by rw[XG])) ⟨Bel,H,I,Ab,?_⟩;rw[show i.toArray.any (yX x)=i.any (yX x)by simp,li r F];show q
def agN:LQ (Cks) (λC H Q=>∃p O,C=[SO]/\(vY Ar H p O\/vZ Ar H p O)/\Amg LF):=by
 intro S s D H C W Q I r h;rw[Vx,p,O,Z,q];rw[UT,rfl,m,Bji];rw[Uk];let f:=gc;rw[Yf];·rw[VB,i,F,c,B,Z];let k:=F.length;show Calls.call_len_list Cae Ag [Lv,Ahf,Apt,Bhb (Adk+1),q]
 ·rw[Vy,i,F,c,B,Z];let k:=F.length;show len_tuple c Ag [Lv,Ahf,Apt,Bhb (Adk+1),q]
def agO:LQ (Cks) (λC H Q=>∃z,C=[Cw z]/\Cu LH/\Amg LH):=by intro S s D H C W Q I r h;rw[VP,z,rfl,B,q];rw[Tj,u,rfl,t,rfl,Bji];let f:=gc;show len_str Ac Bgt
theorem siL.or(h:LQ f r)(g:LQ f F):LQ f (λC H Q=>r C H Q\/F C H Q):=by
 intro S s D H C W Q I J q;rw[Xs];·show h _ s _ H _ _ Q I J q
 ·show g _ s _ H _ _ Q I J q
def agP:LQ (Adm) (λC H Q=>∃p O,C=[SO]/\((vY Ar H p O/\∀l,H l=Ad->Q (FR) (Ei l (BH O)))\/(vZ Ar H p O/\Jn SO))):=by
 intro S s D H C W Q I r h;rw[VP,p,O,rfl,h];rw[UT,rfl,m,Bji];rw[Uk];rcases h with⟨Z,q⟩|⟨Z,q⟩;·rw[VB,i,F,c,B,Z];let k:=F.length;show call_tuple_list Cae (AV g x) (by rw[Vm,xy]<;>omega);let A:QC H Sy:=I.kept (t':=s.toks) x;let G:QC (Ei Aid (BH O)) [Sz,g.push [Ays,Ahg]]:=A.laid (t':=s.toks) (Bul) Do (show tN By BD _ _ _ (BH O)from AO B i F [Cih,_]);show[DP,AC Aid,_,G,q _ (Bpx Do)]
 ·rw[Vy,i,F,c,B,Z];show call_tuple_same c [DP,SO,H,I,q]
def sgG(K:PySem.W.Frag)(T:String)(x:V)(H:Hp):Al:=match x with|.str _=>T=Bmm|.int _=>T="int"|.ref p=>(T=Adj/\∃C,Pl p C)\/(T=Afv/\∃o,Agn p=Ai/\Aea=Adm/\Cdk=Ad)\/(T=Bti/\((∃k,H p=As (.dK k))\/∃k,H p=As (.dT k)))\/(T="set"/\∃S n,H p=As (.set S n))|_=>False
def rk{D:St}(I:Inv X G D H s)(r:Akb)(F:sgG Ar T x H):Bck v T/\∀a,v=Be->∃A,Ev a=Ae A/\A.dict=Ad:=by
 cases x with
 |str z=>rw[VN,t];cases(show T=Bmm from F);grind[typeIs_str]
 |int i=>rw[VN,t];cases(show T="int" from F);grind[typeIs_int]
 |ref p=>
  rw[Uj];rcases F with⟨rfl,C,h⟩|⟨rfl,o,Z,L,j⟩|⟨rfl,Z⟩|⟨rfl,S,n,Z⟩;·rw[VB,E,_,P,_,h];rw[Th,P.isList.typeIs,AV a e];obtain⟨o,n,e,c,j,_⟩:=P;grind
  ·rw[Th,Am o (I.aF p o Z) L,AV a e];rw[Tr];rw[Tp,o,I.aF _ o Z,j]
  ·let z:∃o,Ev p=Ai/\Chv:=by
    rcases Z with⟨B,Z⟩|⟨B,Z⟩;·obtain⟨_,_,_,_,o,_,_,e,k,_⟩:=Asj p Z;grind
    ·obtain⟨_,_,_,_,o,_,_,e,k,_⟩:=Asj p Z;grind
   obtain⟨o,e,k⟩:=z;rw[Th,Am o e k.1,AV a N];cases N;rw[Tp,o,e,k.2.1]
  ·rw[Vd,o,_,_,_,e,k,_,Asj p Z];rw[Th,Am o e k.1,AV a N];cases N;rw[Tp,o,e,k.2.1]
 |_=>show Sv F
def sld(K:PySem.W.Frag)(T:String)(r:V->Qg)(y:TE):TE:=λD H Q=>y D H λx n=>sgG K T x n/\r x [] n Q
def tBM(K:PySem.W.Frag)(T:String)(r:V->Qg)(y:TE)(t:TA):TE:=λD H Q=>y D H λx n=>sgG K T x n/\t D n λC j=>r x C j Q
variable{o e:Expr}{es:List Expr}{to:TE}{t:TA}{name:Str}{apos cpos:Pos}{T id:String}{r:V->List V->Hp->VK->Prop}
def agQ(C:PlainAttrs T)(M:Slot T IY id)(p:typeOf (Asd)=Ek (Cph))(B:yU X id r)(Z:DF o to)(l:Afz o IY (Du o)=Du o:=by rfl)(c:(Crs==Cug)=Aa:=by rfl):[Ef,Hk (Buj o IY) [] RN,sld Ar T r to]:=by rw[UZ];show wpAny_Call_method0_late l c [Cr,Z S s D H _ I h,Dck m];rw[Vi,rk A g F];show DB T id C M p G z (sgH Ab (PySem.evalArgs_none (B S m D n x [] v [] Q A g BY U)))
def rq(C:PlainAttrs T)(O:Slot T IY id)(p:typeOf (Asd)=Ek (Cph))(L:yU X id r)(Z:DF o to)(M:Bhw t)(l:Afz o IY (Du o)=Du o:=by rfl)(y:(Gv (Avh RN (Ayd)) (λx=>! Ee)&&Gv (Bsc RN (Bxw Di)) (λx=>OC Ee)&&Bl (IV e es+AG ([]:Aqg)+(Iz [QO,([]:Aqg)] 0 1)) 30)=Aa:=by rfl)(c:(Crs==Cug)=Aa:=by rfl)(P:Ayd=Sb::Rl:=by rfl)(f:Aop RN (Rl)=Af:=by rfl):[Ef,Hk (Buj o IY) Ash RN,tBM Ar T r to t]:=by rw[UZ];show wpAny_Call_method_late l y c Ab [Cr,Z _ s _ H _ I h,Dck m];rw[Tc,E,z,rk A g F];show⟨T,_,C,O,p,E,z,?_⟩;let d:=M RN _ _ _ _ _ A U;rw[Ud,P,d];show sgH Ag (Calls.evalArgs_plain ?_);show dQ d λW B⟨J,j,G,N,R⟩=>L _ _ _ _ x _ v _ Q G g N R
end
def si2(X:Cx)(id:String)(r:V->Qg):Al:=Cyh Ba BA (Eo->Akb->Qr->r x C H Q->FM (Ajd Asd (v::W)) (EP X S D Q))
theorem sJ.one:∀{x:V}{W:BA},Ku [x]->∃u,W=[u]/\Kl x|_,_,.cons r .nil=>Btb r
theorem sJ.two:∀{x y:V}{W:BA},Ku [x,y]->∃u v,W=[u,v]/\Kl x/\Cgf y|_,_,_,.cons r (.cons q .nil)=>HH _ r q
theorem sJ.zero:∀{W:BA},Ku []->W=[]|_,.nil=>rfl
theorem sJ.reverse(h:Qr):sJ C.reverse W.reverse:=by induction h with|nil=>show BY|cons r t d=>rw[List.reverse_cons,List.reverse_cons];show append d (EJ r)
theorem sJ.rep(h:Qr):RG k (sJ [Arc,k,C] [Arc,k,W])|0=>BY|k+1=>by rw[sde,sde,sbE,sbE];show append h (rep h k)
theorem foldl_rep(i:BA):∀(k:Nat)(E:BA),List.foldl (λX v=>X++v) E.toArray (LW k Ahg)=HU (E++Arc k i)|0,E=>AY|k+1,E=>Cvd sde foldl_rep
section
variable{X:Cx}{pins:List (Addr×Obj)}{σ:St}{H:Hp}{s:Shared}{l b:Addr}{xs ys zs:List V}
def Inv.rx{i:BA}(I:Bu)(o:H l=Bnb)(e:Ev l=Ae [Apm,Adj,Clk])(R:f Ahg=its'.toArray)(O:sJ ys its')(B:Cu Bzk):MR (Ei l (CW ys)) [Dcz,s.heap.update l (Obj.mapSeq f)]:=by let q:=IsL.update e f;rw[UI,R];show I.write (by rw[o];show vH) GZ (λa u T F=>DT (zK _ _ (uc T)) F) [Ke,q] ?_;rw[TU,B,_,_,O,q]
def Inv.agR(I:Bu)(O:sJ ys i)(B:Cu Bzk):MR (Ei AR (CW ys)) [Dcz,Acg [Bzq,Adj,Ahg]]:=Cma (Kh q Atx) [DL,B,i,0,O,IE]
theorem Inv.fresh(I:Bu):H AR=Ad:=Adv
def Inv.ll(I:Bu)(o:H l=Bnb):Cu Bbn/\Csj (sJ xs i/\Bbn=Ans/\Ev l=Ae [Apm,Adj,Clk]):=by rw[Tk,z,i,n,r,e,Asj l o];show Ds z _ n r Ic e
def agS(h:Cu n):Dan n=Af:=by grind[Builtin.List.listTooLong]
end
section
variable{X:Cx}
def sle:V->Qg:=λx J H Q=>∃l C y,x=FR/\J=[y]/\H l=FH C/\BC<MM/\Q Bt (Ei l [DK,C++[y]])
def agT:si2 X Crg sle:=by intro S s D H x J v W Q I m f h;rw[WU,l,C,y,rfl,o,B,q];rw[Uk];obtain⟨u,rfl,g⟩:=f.one;rw[TZ,z,i,n,r,U,e,Cvk];show sdf F.slot_list_append [Oi,e] F.entry_list_append (F.args_list_append_2 _ _) (list_append l Ahg n u (Fb xy)) [FY,e];show DP Bt _ (I.rx (its':=i++[u]) o e AN (Can (EJ g)) ?_) q;rw[su,s0];omega
def slf:V->Qg:=λx J H Q=>∃l b C j,x=FR/\J=[Nv]/\H l=FH C/\BX=FH j/\Cu (BC+Ate)/\Q Bt (Ei l [DK,C++j])
def agU:si2 X "list.extend" slf:=by
 intro S s D H x G v W Q I m f h;obtain⟨l,b,C,j,rfl,rfl,o,M,B,q⟩:=h;rw[Uk];obtain⟨u,rfl,g⟩:=f.one;cases g;rw[TZ,z,i,n,r,U,e,Cvk];rw[TZ,Z,d,J,P,A,N,I.ll M];rw[Tq,E,Cu (Bbf i+Bbf d)]
 let a:¬(! Cgc&&Dan (Bbf i+Bbf d))=Aa:=by rw[We,agS]
 show sdf F.slot_list_extend [Oi,e] F.entry_list_extend (F.args_list_extend_2 ..) (AutoSeq1.list_extend_list_list_0 l _ n b _ _ a Ag Ac) [HS,e,N];show DP Bt _ (I.rx o e AN (Can P) ?_) q;grind
def si3:R2:=λx y H Q=>∃l b C j,x=FR/\y=Nv/\H l=FH C/\BX=FH j/\Cu (BC+Ate)/\∀p,H p=Ad->Q Abf (Pd [DK,C++j])
def agV:Hz (Bsj) si3:=by
 intro S s D H x y v u Q I m R h;obtain⟨l,b,C,j,rfl,rfl,o,M,B,q⟩:=h;rw[Uk];rw[Ue];rw[TZ,z,i,n,r,U,e,Cvk];rw[TZ,Z,d,J,P,A,N,I.ll M];show PySem.P.add_list e N ?_ Ag;let t:Ahg++HU d=HU (i++d):=AY
 rw[t];show[DP,Amy,_,I.agR (Can P) Ag,q _ I.fresh]
def lm{J:Bq}(C:LJ)(k:Nat):Cgw (LW k C)=k*BC:=AY
end
section
variable{prog:Program}{w:World}{A:Around}{E:Value->Shared->Prop}{s:Shared}
end
section
variable{X:Cx}
end
theorem sJ.ints:∀{E:Ao}{W:BA},Ku (Bpn)->IntsAre W E|[],W,h=>by rw[Tg,yY];rw[Tf];show IntsAre.nil|n::E,W,h=>by rw[Tg,tz];cases h with|cons r t=>rw[VN,k];show IntsAre.cons n k (sJ.ints t)
def rz:∀{W:BA}{E:Ao},IntsAre W E->Ku (Bpn)|_,_,.nil=>Paired.nil|_,_,.cons n t h=>Paired.cons (show RelV .. from Aku t) (rz h)
def sJ.ls:∀{j:Ank}{W:BA},Ku (Axw V.bl)->W=Dgb|[],W,h=>Crq|b::j,W,h=>by cases h with|cons r t=>rw[Uj];rw[ls t,tz]
def sJ.agW(r:Ku [Bse]):W=[RX]:=by cases r with|cons r t=>cases t;rw[Uj];rfl
def sJ.lu(r:Ku [Bnt i,Bnt j]):∃t u,W=[Bcb i t,Bcb j u]:=by cases r with|cons r t=>cases t with|cons P T=>cases T;rw[VN,t];rw[YI,u];grind
section
variable{prog:Program}{w:World}{A:Around}{E:Value->Shared->Prop}{s:Shared}{l:Addr}{its:List Value}{ns:List Int}{Q:Value->Shared->Prop}
def agX(D:Bbp=Ad)(U:s.heap.IsList l its.toArray)(H:IntsAre its ns)(h:∀g B d,(∀b o,HD=Ai->QX b=Ai)->Q (GU ns.sum d) Cfg):MB (Ajd [Lf,"sum"] [FR]):=by
 obtain⟨C,e⟩:=H.allInts.items;let f:numsOf (intItems C).toList=ns:=by rw[<-e];show H.numsOf
 rw[nums_intItems]at f;rw[Up,e];show sum_intListG D U [BV,g,B,d,Z];let:=h g B d Z;rw[preSum_eq,sgI AN,f];rw[TQ]
end
section
variable{X:Cx}
def si4(K:PySem.W.Frag):Qg:=λJ H Q=>∃(a:Addr)(E:Ao),J=[Bse]/\Pl a (Bpn)/\Amg E.sum
def agY(L:Ji=Aa):LQ (Lf "sum") (si4 Ar):=by intro S s D H J W Q I r h;rw[Vx,a,E,P,q];rw[VB,i,f,U,_,P];rw[Cmb];show agX ND Cjw f.ints λg B d Z=>Lv Ahf (I.kept Z) SE q
def si5(K:PySem.W.Frag):Qg:=λJ H Q=>∃(a:Addr)(E:Ao),J=[Bse]/\Pl a (Bpn)/\Cjd<64/\∀(n:Ao)(p:Addr),n.Perm E->n.Pairwise Cje->H p=Ad->Q Abf (Pd [DK,Ddz])
def asR(h:n<64):Cu n:=Cmz
def agZ:LQ (Lf Cvx) (si5 Ar):=by
 intro S s D H J W Q I r h;rw[WQ,a,E,P,c,q];rw[VB,i,f,U,_,P];rw[Cmb];let A:=f.ints;show sorted_ints Cjw A (DR Aas) [EA,o,n,G,z,F];rw[Tc,B,b,sortedAll_at ..];let k:An Ddz<=MM:=by rw[sr,z.length_eq];grind
 show[DP,Amy,Ei _ (CW _),I.laid (Auy sortedAll_old) (sc8 _) [DL,k,_,_,rz G,b],q _ _ z F (Akn (sc8 _))]
end
section
variable{X:Cx}
def rA{O:Ba}(f:Bgu wP=Aa){j:Nat}(h:O[j]?=Ae z):wP z=Aa:=Anc f z Ag
end
section
variable{X:Cx}
end
def rB(U:s.heap.IsList l a)(h:∀C:Baq,C=Sz [Adi,Dda,#[FR,Apl]]->(C.heap.IsListIter AR l 0/\C.heap.IsList l a)->l≠AR->Q (PR) C):SM OY (Bum (FR)):=by
 let x:l<AR:=by rw[VD,_,e,_];show PD
 show sgJ U (h _ Ab [Aj,Cbr,U.push _] (uQ x))
def rC{j:Ank}(e:I=Dgb):TruthOf z w A (Jl v (I.toArray[i]?=Fj)) (Cvu i Af):=λi v s Q E O Z=>by grind[wpAny_truthy_bool]
theorem any_range:∀j:Ank,[Pp,Ate].any (Cvu i Af)=j.any id|[]=>rfl|b::j=>by rw[sT,List.range_succ_eq_map,wQ,sdg,wQ,<-any_range _];rfl
theorem all_range:∀j:Ank,Gv [Pp,Ate] (Cvu i Af)=j.all id|[]=>rfl|b::j=>by rw[sT,List.range_succ_eq_map,xz,seE,xz,<-all_range j];all_goals rfl
section
variable{X:Cx}
def si6(K:PySem.W.Frag):Qg:=λJ H Q=>∃(a:Addr)(j:Ank),J=[Bse]/\Pl a (Axw V.bl)/\Atp (j.any id)
def si7(K:PySem.W.Frag):Qg:=λJ H Q=>∃(a:Addr)(j:Ank),J=[Bse]/\Pl a (Axw V.bl)/\Atp (j.all id)
def ag_(L:Ji=Aa):LQ (Lf "any") (si6 Ar):=by
 intro S s D H J u Q I r h;rw[Vx,a,j,P,q];rw[VB,i,f,U,_,P];rw[Cmb];let T:=f.ls;show call_any_walk (rB Cjw [BV,C,N,st,E]);subst N;show⟨_,_,_,_,_,_,_,Ab,Deu _ a E _,st,rC T,Bz g B Z⟩;show Ath _ H (I.kept [HM,o,O,Z b o (FC c) (SD O)]) q
 ·rcases FI c with W|c;·rw[T',(W▸uP O),Ag]
  ·grind
 ·change Bpw _=Bpw _;rw[<-any_range,T,xy,sr]
def ag0(L:Ji=Aa):LQ (Lf "all") (si7 Ar):=by
 intro S s D H J u Q I r h;rw[Vx,a,j,P,q];rw[VB,i,f,U,_,P];rw[Cmb];let T:=f.ls;show call_all_walk (rB Cjw [BV,C,N,st,E]);subst N;show⟨_,_,_,_,_,_,_,Ab,Deu _ a E _,st,rC T,Bz g B Z⟩;show Ath _ H (I.kept [HM,o,O,Z b o (FC c) (SD O)]) q
 ·rcases FI c with W|c;·rw[T',(W▸uP O),Ag]
  ·grind
 ·change Bpw _=Bpw _;rw[<-all_range,T,xy,sr]
end
mutual
inductive Dp(K:PySem.W.Frag)(H:Hp):Im V PyData|sD:Dp K H Bt BM|bl(b:Bool):Dp K H (Mz) (.bool b)|int(i:Int):Dp K H OU OU|str(x:Str):Dp K H (Cw x) (Cw x)|lst{a:Addr}{xs:Ba}{ds:Bzh}:Pl a xs->saS K H xs ds->Dp K H Gk (PY ds)|tup{a:Addr}{xs:Ba}{ds:Bzh}:NS K xs->saS K H xs ds->Dp K H Gk (.tuple ds)
inductive saS(K:PySem.W.Frag)(H:Hp):Im Ba Bzh|nil:saS K H [] []|cons{v:V}{vs:Ba}{d:PyData}{ds:Bzh}:Dp K H v d->saS K H vs ds->saS K H (v::vs) (d::ds)
end
section
variable{X:Cx}{pins:List (Addr×Obj)}{σ:St}{H:Hp}{s:Shared}
mutual
theorem Dp.reads(I:Bu):∀(d:PyData)(v:V)(u:Value),Dp Ar H v d->KQ->∃c,Reads Bg u d c
|.none,_,_,h,r=>by rw[Tf];rw[Uj];rw[Ur,Reads.none]
|.bool b,_,_,h,r=>by rw[Tf];rw[Uj];rw[Ur,Reads.bool b]
|.int i,_,_,h,r=>by rw[Tf];rw[VN,t];rw[Ur,Reads.int i t]
|.str x,_,_,h,r=>by rw[Tf];rw[VN,t];rw[Ur,Reads.str x t]
|.list O,_,_,h,r=>by cases h with|lst P M=>rw[Uj];rw[VB,A,f,⟨o,n,Z,L,_,j⟩,_,P];rw[Tc,c,w,readsAll I O _ A M f];rw[Ur,Reads.list Z L j w]
|.tuple O,_,_,h,r=>by cases h with|tup P M=>rw[Uj];rw[Vy,A,f,⟨o,Z,L,n,j⟩,_,P];rw[Tc,c,w,readsAll I O _ A M f];rw[Ur,Reads.tuple Z L j w]
|.dict _,_,_,h,_=>SF
theorem Dp.readsAll(I:Bu):∀(O:Bzh)(J:Ba)(W:BA),saS Ar H J O->Ku J->∃c,ReadsAll Bg W O c|[],_,_,h,r=>by rw[Tf];rw[Uj];rw[Ur,ReadsAll.nil]|d::O,_,_,h,r=>by cases h with|cons G z=>cases r with|cons g B=>rw[Tc,c,U,reads I d _ _ G g];rw[Tc,C,R,readsAll I O _ _ z B];rw[Ur,ReadsAll.cons U R]
end
end
section
variable{X:Cx}
def si8(K:PySem.W.Frag):R2:=λx y H Q=>∃d e,Dp K H x d/\Dp K H y e/\Bpb d=Aa/\Bpb e=Aa/\Atp [Cte,e]
def si9(K:PySem.W.Frag):R2:=λx y H Q=>∃d e,Dp K H x d/\Dp K H y e/\Bpb d=Aa/\Bpb e=Aa/\Atp (! Cte e)
def ag1(F:Bbq+64<Aag):Ayv .Eq (si8 Ar):=by intro S s D H x y v u Q I m R h;obtain⟨d,e,j,Y,A,p,q⟩:=h;rw[Tc,c,g,Dp.reads I d x v j m];rw[Tc,B,P,Dp.reads I e y u Y R];show SeqAt.compareEq_shaped g P A p F [DP,Bel,H,I,q]
def ag2(F:Bbq+64<Aag):Ayv .NotEq (si9 Ar):=by intro S s D H x y v u Q I m R h;obtain⟨d,e,j,Y,A,p,q⟩:=h;rw[Tc,c,g,Dp.reads I d x v j m];rw[Tc,B,P,Dp.reads I e y u Y R];show SeqAt.compareNe_shaped g P A p F [DP,Bel,H,I,q]
end
end L2
namespace L2
open PySem PySem.Spec PyProof.Rows
abbrev sja(h:Heap)(c:Addr)(v:EU):Al:=h.IsCell c v
def slg(B i:Scope):Bmn:=Dbm [Ctf,(k==Kr&&Cdm==Oh&&Agc n==Hr),(n,Adw),(n,k)]
def wR(C:IG):Anm->IG->IG|[],E=>E|(n,k)::r,E=>[CH,k==Kr,wR C r ((n,Amq (C.lookup n))::E),wR C r E]
def rD(p:Env)(f:BG×Cxg->IG->Sem (ForInStep (IG)))(R:∀n k c,f (n,k) c=[DZ,k==Kr,(do let a<-cellOf p n;pure (.yield ((n,a)::c))),Ek (.yield c)]):∀(N:Anm)(E:IG),(∀y∈N,y.2=Kr->∃c,Cou=AW)->forIn N E f=Ek (wR p.cells N E)
|[],E,_=>Ch
|(n,k)::r,E,h=>by
 let d:=λE=>rD _ f R r E λy Q=>h y Ag;unfold wR;rw[Td,Z,(k==Biq)=Aa];·grind[List.mem_cons_self,cellOf]
 ·grind
def ag3(h:Ctm (y.2=Kr->∃c,Cou=AW)):Bjj B p=Ek (wR p.cells Cfa []):=by rw[Vm,closureFor];rw[rD _ _ Ag _ _ h];rfl
def lz{J:Bq}:∀{l:Na J}{n:Str}{c:J},DX n c l->∃O,l.lookup n=Ae O
|(k,v)::r,n,c,h=>by
 rw[tX];cases T:n==k with
 |true=>grind
 |false=>
  rw[Yk,h];·grind
  ·show lz h
def iC:∀{N:Anm}{E:IG}{n:Str}{c:Addr},DX n c (wR C N E)->DX n c E\/(DX n Kr N/\c=Amq (C.lookup n))
|[],_,_,_,h=>OJ
|(m,k)::r,E,n,c,h=>by
 rw[Tu,wR];rw[Tn]
 ·rw[TF,Z];let Z:k=Kr:=by simpa using Z
  rcases iC h with h|⟨G,z⟩
  ·rw[Yk,h];·rw[Tr];rw[TN,⟨Z▸zB,Ab⟩]
   ·rw[TB,h]
  ·show Kq [MA,G] z
 ·rcases iC h with h|⟨G,z⟩;·rw[TB,h]
  ·show Kq [MA,G] z
def lA:∀{N:Anm}{E:IG}{p:BG×Fx},p∈E->p∈wR C N E
|[],_,_,h=>h
|(m,k)::r,E,p,h=>by
 unfold wR;split;·show lA (MA h)
 ·show lA h
def lB:∀{N:Anm}{acc:IG}{n:Str},DX n Kr N->[DX,n,Amq (cells.lookup n),wR cells N acc]
|(m,k)::r,acc,n,h=>by
 unfold wR;rw[Yk,h];·grind[lA]
 ·split;·show lB h
  ·show lB h
def lC:∀{N:Anm}{h:Heap}{E:IG}{x:Str}{c:Addr},DX x c [Bom,GC,N,E]->DX x c E\/(DX x Adw N/\GC<=c/\sja (pushCells h N) c Ad)
|[],_,_,_,_,h=>OJ
|(n,k)::r,h,E,x,c,H=>by
 rw[TC,cellsFrom,H];unfold pushCells;rw[Tz,H]
 ·rw[TF,Z];rw[Av Z];rw[Tq,Z,k=Adw]
  rw[<-wS h [Apm,"cell",FX Ad]]at H;rcases lC H with H|⟨G,z,F⟩
  ·rcases FI H with e|H;·rw[Tr];rw[TN,DL Ag Ach _ (seF r _ _ _ (IE)) Ab]
   ·grind
  ·grind[Heap.size_push]
 ·rcases lC H with H|⟨G,z,F⟩;all_goals grind
def iD:∀{names:Anm}{n:Nat}{E:IG}{p:BG×Fx},p∈E->p∈Bom n names E
|[],_,_,_,h=>h
|(m,k)::r,n,E,p,h=>by
 unfold cellsFrom;split;·show iD Ag
 ·show iD h
def lE:∀{N:Anm}{n:Nat}{acc:IG}{x:Str},DX x Adw N->∃c,DX x c [Bom,n,N,acc]
|(m,k)::r,n,acc,x,h=>by
 unfold cellsFrom;rw[Yk,h];·rw[Tr];rw[Th,n,iD zB]
 ·split;·show lE h
  ·show lE h
def lF:∀{N:Anm}{h:Heap}{E:IG}{x y:Str}{c:Addr},(∀p∈E,BE<GC)->(∀x y c,DX x c E->DX y c E->x=y)->DX x c [Bom,GC,N,E]->DX y c [Bom,GC,N,E]->x=y
|[],_,_,_,_,_,_,H,G,z=>H _ _ _ G z
|(n,k)::r,h,E,x,y,c,U,H,G,z=>by
 unfold cellsFrom at G z;rw[Tz,G]
 ·rw[TF,Z];rw[Ux,Z,z];rw[<-wS h [Apm,"cell",FX Ad]]at G z;show lF (h:=h.push _) (JQ) (EA x y c a b) G z
  ·rw[wS];rw[YF,Y];·show sdh _
   ·show sgK (U p Y)
  ·rcases FI a with e|a<;>rcases FI b with D|b;·rw[Tr];cases D;rfl
   ·rw[Tr];rw[Ug,U _ b,(Amu)]
   ·cases D;rw[Ug,U _ a,(Amu)]
   ·show H _ _ _ a b
 ·rw[TF,Z];rw[Uz,Z,z];show lF U H G z
def ag4{code:Value}(h:Q (newEnv B AR g (Aon (AR+1) c) L f code (Gj) b) [Sz,Bpj (Bwp)]):SM M (newFunctionEnv B g c [] L f code (Gj) b):=by rw[To,wpAny_alloc ?_];rw[To,wpAny_layCells _ Ag _ _ _ _ ?_];rw[show Cet (Sz [Acg,_]:Baq)=AR+1 from wS ..];rw[To,Fv (Buv)]
def lG{i:Scope}:∀{N:Anm}{x:Str}{k:NameKind},JK (N.map [Ctf,(k==Biq&&Cdm==Oh&&Agc n==Hr),(n,Crh),(n,k)]) x=Ja->∃X,N.lookup x=Ae X/\(k=X\/(X=Kr/\k=Adw))
|[],_,_,h=>Azs
|(n,A)::r,x,k,h=>by
 let d:=@lG i r x k;let g:List.lookup x ((if(A==Biq&&Cdm==Oh&&Agc n==Hr)=Aa then(n,Crh)else(n,A))::(r.map _))=Ja:=h;cases O:x==n with
 |true=>
  rw[UC,tX,O];rw[Td,L,(A==Biq&&Cdm==Oh&&Agc n==Hr)=Aa];·rw[Ux,L,g];rw[Vz,tX,O,g];cases g;rw[Vz,si,sey,L];rw[Vu,A,Kq L.1.1 Ab]
  ·rw[Uz,L,g];rw[Vz,tX,O,g];cases g;rw[Vh,Akr]
 |false=>
  rw[UC,tX,O];rw[Td,L,(A==Biq&&Cdm==Oh&&Agc n==Hr)=Aa];·rw[Ux,L,g];rw[Vz,tX,O,g];show d g
  ·rw[Uz,L,g];rw[Vz,tX,O,g];show d g
structure zL(N:Dl)(sc scope:Scope)(own:Na Aw):Al where
 kind:scope.kind=Oh
 uniq:Cra (scope.names.lookup y.1=Ae y.2)
 ix:∀p∈own,N[BE]?=Aie
 free:Cra (y.2=Kr->Cgp y.1=Hr\/Cgp y.1=Qa)
 own:Cra (y.2=Cnk\/y.2=Adw->y.1∈own.map Aci\/y.1∉N)
def tY(D:St):Ak->St|[]=>D|v::J=>Ip (tY D J) v Ad
def gf(D:St):∀J:Ak,An (tY D J)=Cjf|[]=>rfl|v::J=>Acr tY wv (gf D J)
def lH:∀{J:Ak},(tY D J)[i]?=As Bi->D[i]?=As Bi/\i∉J
|[],h=>Aj h AY
|v::J,h=>by
 rw[Tu,tY];rw[Td,H,v=i];·grind
 ·rw[Tg,zC H];rw[Vi,lH h];grind
abbrev Cx.xA(X:Cx)(s:Shared)(H:Hp)(B:Scope)(d:Env)(F:Ez):Cx:={X with wr:=s,xv:=H,env:=d,outer:=X.stack,ex:=F,fn:=λx=>Agd x==Hr,pn:=[],xe:=Bff}
section
variable{X:Cx}{pins:List (Addr×Obj)}{σ:St}{H:Hp}{s:Shared}
def ag5(I:Bu)(t:zL X.N Sq B v)(hN:X.N.Nodup)(l:Ra (wM X IQ H b/\b<AR)):Inv (Mw s H (Acn B (Aon (AR+1) (Auk)) AR) A) [] (tY σ (v.map (·.2))) H [Sz,Bpj (Bwp)]:=by
 let j:Ctm (y.2=Kr->∃c,Baj y.1=AW):=HK y Q (by
  rcases t.free y Q e with k|k;·show Ciu (AK k)
  ·show Ciu (Bw k))
 rw[VS,P,Acn B (Aon (AR+1) (Auk)) AR,d];let x:∀b o,HD=Ai->QN [Bpj,(Bwp)] b=Ai:=MF (seF _ _ _ _ (Aiq));rw[Yu,hL,Cka,AR,P]
 rw[Yu,n,d.cells,Aon (AR+1) (Auk),P]
 rw[Yu,R,d.scope,slg B Sq,P]
 rw[<-wS Bg Byi]at n;let S:∀{y c},DX y c Auk->Baj y=AW/\c<AR:=λ{y c}hm=>by
  rcases iC hm with hm|⟨G,rfl⟩;·grind
  ·rw[Tc,c,L,j _ G Ab];rw[L];rw[Tc,w,z,I.cell _ _ L];rw[VY,z.lt]
 let M:∀{y c},Bau=AW->(Baj y=AW/\c<AR)\/(AR+1<=c/\sja (Bpj (Bwp)) c Ad):=λ{y c}e=>by rw[TV,n];rw[YN,(Cek),_,h2,F];all_goals grind[Heap.size_push]
 let C0:∀{y},Agd y=Qa->∃c,Bau=AW/\Baj y=AW:=λ{y}U=>by
  let Q:DX y Biq Cfa:=u7 U;rw[Tc,O,D,lz (iD (names:=B.names) (n:=La (Bwp)) (lB (cells:=X.env.cells) (acc:=[]) Q))];rw[<-n]at D;show HS O D;rw[n]at D;rw[YN,(u7 D),G,_,_];·grind
  ·let:=t.uniq _ G;grind
 let G0:(Mw s H d A).Ok:=by
  show⟨I.ok.mod,by change d.scope.kind=_;rw[R];show t.kind,by change d.globals=_;rw[<-P];show I.ok.glob,by change d.builtins=_;rw[<-P];show I.ok.blt,Aq,EA y z c W N,AV y Q,BV y c z e,I.ok.hd,Bys,Akr,Acb [Pu,BV y c e z],I.bs,Li Cbl I.sz,BV b o e T,Bz b T z,I.stack,I.kM⟩;·let W:Bau=AW:=W;let N:d.cells.lookup z=AW:=N;rw[n]at W N;show lF (JQ) (λy z c a b=>I.ok.inj y z c (S a).1 (S b).1) (u7 W) (u7 N);rw[YQ]
  ·change∃c,Bau=AW;let C:Eu (Byz=Ja->(k=Adw\/k=Kr)->∃c,Bau=AW):=λk Z l0=>by
    rw[TC,Env.kindOf,Z];rw[R]at Z;rw[Te,k',e,r,lG Z];let:k'=Adw\/k'=Kr:=by
     rcases r with rfl|⟨rfl,_⟩;·show l0
     ·rw[TN,Ab]
    rcases this with rfl|rfl;·rw[Tc,c,hm,lE (n:=La (Bwp)) (acc:=Auk) (Cek)];rw[Tc,O,D,lz hm];rw[Th,O,by rw[n];show D]
    ·rw[Te,c,G,_,C0 e];rw[Th,c,G]
   rw[Yg];·show C _ Q GZ
   ·show C _ Q Aot
  ·let z:(Agd y==Ae Crh)=Aa:=z;let z:Agd y=Hr:=by simpa using z
   let e:Bau=AW:=e;rw[TV,n];rw[YN,(Cek),_,h2,_]
   ·rcases iC hm with hm|⟨G,_⟩;·cases hm
    ·let q:=t.uniq _ G;rw[UI,z];cases q
   ·rw[wS]at h2;show sgL h2
  ·change EW Cka;rw[hL];show uQ (l b T).2
  ·let e:Bau=AW:=e;rw[WN,M e,G,_,G,_];·show(l b T).1.2.2.2.2.1 y c G z
   ·let h2:AR+1<=b:=by rw[<-z];show G
    rw[Ug,MD (l b T).2 (sgL h2),(Amu)]
  ·rcases(l b T).1.2.2.2.1 with z|z;·show I.ok.saI b o e z
   ·rw[Ug,Bfa (Li Cbl z),(Amu)]
  ·rw[XE,FI (I.eK b z)];·show(l b T).1.2.1 z
   ·show(l b T).1.2.2.1 z
 show⟨G0,Ab,Aap,Un.kept x,Aho Cmj [HF,i,y,av,W,N,J],GX y c,?_,GX y c,JQ,I.sv.kept x,Dfd gf⟩;·change Heap.Ns _ Cka _;rw[hL];show Heap.Ns.keeps (Heap.Ns.new ..) [MF,seF _ _ _ _ e]
 ·rw[Tc,N,E,lH N];let u:Agd y=Qa/\(Byz=Hr\/Byz=Qa):=by
   let C:Eu (d.scope.names.lookup y=Ja->k=Cnk\/k=Adw\/k=Kr->Agd y=Qa/\(Byz=Hr\/Byz=Qa)):=λk Z l0=>by
    let h:=Z;rw[R]at Z;rw[Te,k',e,r,lG Z];rw[Tx,g,¬(k'=Cnk\/k'=Adw),f,by
     rcases t.own _ (Cek) f with D|D;·rw[Te,p,Y,D0,zM.mp D];let J:=t.ix p Y;let:Ax=y:=D0;rw[this]at J;show E (Bcx [Am,p,Y,kN hN J W])
     ·show D (tV W)]
    rcases r with rfl|⟨rfl,rfl⟩
    ·rcases l0 with rfl|rfl|rfl;·rw[Ug,Akr,g]
     ·rw[Ug,Bw Ab,g]
     ·rw[Th,e,Bw h]
    ·rw[Th,e,OJ]
   let J:sbw d.scope y:=J;rcases J with J|J|J;·show C _ J GZ
   ·show C _ J (Bw GZ)
   ·show C _ J (Bw Aot)
  rw[WP,hn,U];let E0:sbw Sq y:=(t.free _ (u7 u.1) Ab).elim (HN [Bw,(AK k)]) (HN [Bw,(Bw k)]);rw[Te,w,r,q,U i y av W N E0];rw[Tp,w,r,Bw [FY,u.2]];rw[Te,c,G,h2,C0 u.1];rcases q with⟨k,_⟩|⟨_,O,D,z⟩;·let k:Afs y=Fy:=k;rcases t.free _ (u7 u.1) Ab with k'|k'<;>rw[show Afs y=_ from k']at k<;>cases k
  ·rw[h2]at D;cases D;rw[Tp,c,G,Dfl]
 ·let e:Bau=AW:=e;rw[WN,M e,G,_,_,z];·rw[Tc,w,z,Avz y G];rw[Th,w,Dfl]
  ·rw[Ur,z]
 ·change H Cka=Ad;rw[hL];show Adv
 ·let e:Bau=AW:=e;rw[WN,M e,G,_,G,_];·show Bmp y G
  ·show Akn (sgL G)
 ·rw[Ug,Cvj p (([]:D_)++[]),AN]
def ag6(I:Bu)(l:H D=FH C)(B:BC<MM)(r:Cgf y)(h:∀d,MR (Ei D [DK,C++[y]]) d->Q BM d):Bik (Ajd [Lf,Crg] [Azq,v]) Q E:=by rw[Tk,F,i,n,p,e,Asj D l];let A:=p.length;show append_at (hsz:=Aq) e [Bz,g,U,f];show h _ (I.write (by rw[l];trivial) GZ (I_ u T q [Mh,b,T,q]) [Ke,f] [Bcm,Aq,n+1,p.append (EJ r)]);grind
def zN(X:Cx)(a:Hs)(t:TT):Al:=∀(pins:D_)(s:Shared)(σ:St)(H:Hp)(Q:Bmi),Bu->t σ H Q->FM (forIn a Aa λc r=>if r=Aa then do let O<-isTrue c X.env (eval c X.env);pure (ForInStep.yield O)else Ek (Crb r)) (TP X IQ σ Q)
def sjb:TT:=LU H Q [Ov,Aa]
def ag7:zN X [] sjb:=λ_ _ _ H _ I h=>wpAny_tests_nil [Am,H,I,h]
def ag8(h:PT X c t):zN X OG t:=λpins s σ H Q I Y=>wpAny_tests_one (h _ s _ H Q I Y)
end
def eN{o:Bzt J}(h:EK M A t Q (Bff))(H:∀a s,Q a s->o a s):EK M A t o E:=OO h H _ _ z [Sv,z]
def ag9(I:Bzt Aw)(i:∀n s,I n s->EK OY A (Blq M) (λr H=>match r with|none=>R (EG .next) H|some v=>[EQ,OY,A,Csq T M v,KJ b [EQ,OY,A,assign T p v,KJ C [EQ,OY,A,forIn a Aa λc r=>if r=Aa then do let t<-isTrue c p (eval c p);pure (ForInStep.yield t)else Ek (Crb r),(λt o=>[Bsa,t=Aa,EQ OY A [Blx,F] (λx j=>EQ OY A [Ajd,Lf Crg,[E,x]] [KJ,k,∃m,m<n/\I m k] (Brx OY p λe d=>R (KI) d) j) (Brx OY p λe d=>R (KI) d) o,∃m,m<n/\I m o]),(Brx OY p λe d=>R (KI) d),C],(Brx OY p λe d=>R (KI) d),b],(Brx OY p λe d=>R (KI) d),H]) (Brx OY p λe d=>R (KI) d))(n:Nat)(h:I n s):Ams OY A (.compLoop (Agk [AO T Z a 0] B P) 0 M E p) R s:=by show codeAny_loop Ab I (Bz n s f) n h;change EK _ A ((compTurn (Agk [AO T Z a 0] B P) 0 M E p).onRaise (λx=>do noteFrame x p;theTreesLotGoes x)) _ _;show wpAny_noted ?_;rw[compTurn_list];rw[To,seG [Ib,OO (i n s f) (Bz r H O) _ _ g g]];cases r with|none=>show Fv O|some v=>rw[To,OO O (Bz _ b l) _ _ g g];rw[To,OO l (LU C S [Auw,OO S (Bz t o X) _ _ g g]) _ _ g g];cases t with|false=>show Fv [Q_,X]|true=>rw[W_,OO X (λx j L=>Auw [OO,L,(LU k J [Fv,(Fv [Q_,J])]),_,_,g,g]) _ _ g g]
section
variable{X:Cx}
def sdi(l:TI)(g:TG)(d:TT)(T:TE)(v:Ak):TE:=λA H Q=>l A H λJ n=>∀D,n D=Ad->∃W:Aw->LC Aw,(∃m,W 0 m [Kf,n,D,Aaf])/\∀i m H,W i m H->(J.stop i H/\Jn Azq)\/(J.go i H/\∃N:JH Hp,(∀M,N M->∃h,h<m/\W (i+1) h M)/\∀x M,J.sc4 i H x M->g x (tY A v) M λc j=>tY c v=tY A v/\d c j [KW,R,[CH,b=Aa,T c R λy w=>∃E,w D=FH E/\Cjd<MM/\N (sU w D [DK,E++[y]]),N R]])
def rE{σ:St}(L:Ji=Aa)(hN:X.N.Nodup)(I:SA σ H s)(hi:PI X w Z wi)(ok:zL X.N Sq B l0)(hg:Cxu Ez (PG (Mw s H (Acn B cl C) A) w g))(ht:Cxu Ez (zN (Mw s H (Acn B cl C) A) D0 tt))(Y:Cxu Ez (PE (Mw s H (Acn B cl C) A) F te))(P:∀x,Atm Z=Afl)(h:sdi wi g tt te (l0.map (·.2)) σ H Q)(J1:∀D C d m M,SA σ M d->Q (Azq) M->d.heap.Ns C m->wM X S M C->compPost NZ GT Agg C0 Qf (Azq) C (EG .next) d):FM (comprehension (Agk [AO w Z D0 0] B Q0) B Di K2 (newList []) Af (Du Z) C0) Qf:=by
 let N1:Ctm (y.2=Kr->∃c,Baj y.1=AW):=HK y hy (by
  rcases ok.free y hy e with k|k;·show Ciu (AK k)
  ·show Ciu (Bw k))
 show wpAny_comprehension_free (use:=C0) Ab P (ag3 N1) ok.kind (HK y hy [Hy,ok.uniq y hy,e]) [Cr,hi S s σ H _ I h,λxv s1 hx=>dQ hx [Bz,J2,s2,h2]];obtain⟨it,A,E,J,H2,e,G,T,U0,f2,q⟩:=h2;rw[Uo];show yT (ag4 ?_) (by change Cu 0;simp);rw[VS,hD,Cet s2,D];let D1:H2 D=Ad:=G.sv.fresh (seH hD);rw[Te,W,⟨m0,w0⟩,Z1,q D D1];rw[VS,Q1,({s2 with heap:=s2.heap.push [Bzq,Adj,HU ([]:BA)]}:Baq),N];let I3:SA σ [Kf,H2,D,Aaf] N:=by rw[<-Q1];show G.laid (t':=s2.toks) (Bul) (seH hD) ⟨Bls,[],0,BY,?_⟩;rw[<-hD];show IE
 rw[Tq,h3,N.heap=s2.heap.push [Bzq,Adj,HU ([]:BA)]]
 rw[TW,sz,Ra (b<Cet s2),b,hb,by rw[Te,o,e,_,T.obj _ _ U0 b hb];show PD]
 rw[TW,f3,Ra (wM X S [Kf,H2,D,Aaf] b/\b<PX),b,hb,by let P1:=sz b hb;rw[Th,Pu (f2 b hb).2,by rw[YQ]];rw[ai [Bfy,hD,uQ P1]];show(f2 b hb).1]
 let X1:E 0 N.heap:=T.keep _ _ _ U0 [I_,_,o,e,Cb h3 Aiq]
 let I4:=ag5 I3 ok hN f3;let pg:=hg N [Kf,H2,D,Aaf] PX (Aon (PX+1) (Auk)) A;let pt:=ht N [Kf,H2,D,Aaf] PX (Aon (PX+1) (Auk)) A;let O:=Y N [Kf,H2,D,Aaf] PX (Aon (PX+1) (Auk)) A;change Ams _ _ (.compStart (Agk [AO w Z D0 0] B Q0) 0 (Bmw) (Azq) (Acn B (Aon (PX+1) (Auk)) PX)) (compPost NZ GT Agg C0 Qf (Azq) PX) [Ctk,Bpj (Ctl Byi)];rw[TW,O0,Ra ((sU H2 D (Aaf)) b=Ad),b,hb,(f3 b hb).1.1];generalize M1:Acn B (Aon (PX+1) (Auk)) PX=l at I4 pg pt O|-;rw[XC,cL,Cws,PX,M1]
 generalize F2:sU H2 D (Aaf)=R at I3 I4 pg pt O w0 O0 f3;generalize T1:(Ctk [Bpj,(Ctl Byi)]:Baq)=s4 at I4|-;let V0:E 0 s4.heap:=T.keep _ _ _ X1 [I_,_,o,e,Bzj T1 (seF _ _ _ _ (Aiq))]
 let G0:∀{W0:St}{M:Hp}{d:Shared},Inv (Mw N R l A) [] W0 M d->(Ra (M b=Ad))->Ra (wM (Mw N R l A) [] M b):=λ{W0 M d}I' f b hb=>[Ds,f b hb,(I'.ok.sbx b hb).1,I'.ok.saJ b hb,AK hb,HK x c ((I'.ok.sbx b hb).2 x c e),Aba hp [Qi,(show p∈([]:D_)++[]from hp)]];let J0:Ams NZ GT (.compLoop (Agk [AO w Z D0 0] B Q0) 0 (Bmw) (Azq) l) (compPost NZ GT Agg C0 Qf (Azq) PX) s4:=by
  show ag9 (λn d=>∃i M,Inv (X.xA N R B l A) [] (tY σ (l0.map (·.2))) M d/\E i d.heap/\(∀b∈A,M b=none)/\W i n M) ?_ m0 [Ds,0,R,I4,V0,O0,w0];rintro n s5⟨i,H5,I5,U,n5,w5⟩;rcases Z1 i n H5 w5 with⟨Y1,qq⟩|⟨go,Nx,F1,step⟩
  ·let td:=T.done (Mw N R l A) Ab Ab Ab L i [] s5 _ H5 (Bff) I5 (G0 I5 n5) U Y1;show eN td λr s6⟨hr,I6⟩=>?_;subst hr;let t:SA σ H5 s6:=I3.afl (ch:=A) I6.os I6.base I6.sv [PQ,I6] [KW,hb,AO (f3 b hb).1.2.2.2.1 (f3 b hb).1.2.1 (f3 b hb).1.2.2.2.2.1 (f3 b hb).1.2.2.2.2.2];let nC:H5 PX=Ad:=by let z:H5 Cws=Ad:=I6.free;rw[cL]at z;show z
   obtain⟨m,f,_⟩:=I6.loc;let f:s6.heap.Ns Cws m:=f;rw[cL]at f;show J1 D PX s6 m H5 t qq f (I3.f8 Do nC)
  ·let ti:=T.item (Mw N R l A) Ab Ab Ab L i [] s5 _ H5 (Bff) I5 (G0 I5 n5) U go;show eN ti λr s6⟨u,hr,h6⟩=>?_;subst hr;show eN h6 λ_ s7⟨x,H7,t,r7,y7,E0,n7⟩=>?_;let Z0:=t.pinned (G0 t n7) (T.obj _ _ E0);show eN (pg _ s7 _ H7 x u _ Z0 r7 (step x H7 y7)) λ_ s8⟨a,H8,I8,I0,q8⟩=>?_;show eN (pt _ s8 a H8 _ I8 q8) λb s9⟨H9,I9,q9⟩=>?_;let H0:∀{d:Shared}{M:Hp},Inv (Mw N R l A) ([]++sc5 A s7.heap) a M d->Nx M->∃m,m<n/\∃i M,Inv (Mw N R l A) [] Dac M d/\E i Btp/\(Ra (M b=Ad))/\W i m M:=λ{d M}I' nx=>by
    rw[Te,m',hm,w',F1 M nx];let P0:Ra (∀o,s7.heap.get? b=Ai->d.heap.get? b=Ai/\M b=Ad):=I_ hb o e (let z:=I'.pin (b,o) (sbA _ (sbA _ (kT hb e)));Aj HI (Hf).1);let hl:AG Dac=HY:=by rw[<-I0,gf]
    show[DB,m',hm,i+1,M,(I'.iw (pins:=[])).weak hl (GX j v),T.keep _ _ _ E0 [I_,hb,o,e,(P0 b hb o e).1],AV b hb,w'];·rw[<-I0]at e;show(lH e).1
    ·rw[Te,o,e,_,T.obj _ _ E0 b hb];show(P0 b hb o e).2
   cases b with|false=>simp only[um,tO]at q9|-;show H0 I9 q9|true=>rw[Yl,q9];show eN (O _ s9 a H9 _ I9 q9) λz N2⟨yv,C2,X0,V1,D2,C1,U1,nx⟩=>?_;show ag6 (X:=Mw N R l A) X0 C1 U1 V1 λP2 Y0=>H0 Y0 nx
 show codeAny_compStart_list J0 (T.self GT 0 _ _ _ V0 J0)
def aha(L:Ji=Aa)(c:X.N.Nodup)(E:PI X w Z l)(t:zL X.N Sq B v)(J:Bxi (BG×Fx) Ez (PG (Mw s H (Acn B r C) A) w g))(R:Bxi (BG×Fx) Ez (zN (Mw s H (Acn B r C) A) a d))(Y:Bxi (BG×Fx) Ez (PE (Mw s H (Acn B r C) A) F W))(P:∀x,Atm Z=Afl:=by intro _;rfl):DF (Agk [AO w Z a 0] B p) (sdi l g d W (v.map (·.2))):=by rw[Vg,σ,Q];show rE L c I E t J R Y P h λD C u m M k q O f=>Am m O [AV,i,U];obtain⟨n,G,y,N,z,j⟩:=f;show DP Azq _ (k.turned (Pj T [Mh,b,T,e]) n G N z j) q
def ahb(hc:Ji=Aa)(c:X.N.Nodup)(Q:Mj=Nc)(R:Afs y=Fy)(l0:Aab (Agk [AO w Z W 0] B C0) Azi [Fu,p]=Ek Aa)(hi:PI X w Z l)(t:zL X.N Sq B v)(J:Bxi (BG×Fx) Ez (PG (Mw s H (Acn B r C) A) w g))(ht:Bxi (BG×Fx) Ez (zN (Mw s H (Acn B r C) A) W tt))(Y:Bxi (BG×Fx) Ez (PE (Mw s H (Acn B r C) A) F te))(P:∀x,Atm Z=Afl:=by intro _;rfl):ML (Adc [Azi] (Agk [AO w Z W 0] B C0) p) (siJ (sdi l g tt te (v.map (·.2))) (yO i)):=by
 rw[Vg,σ,D];rw[exec_Assign_Name_used _ _ _ _ l0];rw[To,seG (PP)];rw[To,Jf (rE hc c I hi t J ht Y P h λL C d m M k q hn f=>?_) [LU,d,hq,Fv (Fv hq)]];show Ddl (kO (v:=V.ref L) k c Q (AK R) Ab (λs2 G⟨a,U,_⟩=>?_) (Bw R));obtain⟨n,f1,f2,N,z,j⟩:=f;rw[Tq,E,C≠a]
 rw[Tp,m,hn.sameBut U E,AV h3 O];rw[Ts,_,_,G.turned (Pj T [DT,O.2 b T,e]) n f1 N z j,q]
end
def sdj(N:Dl)(i B:Scope)(v:Na Aw):Bh:=(match B.kind with|.function=>true|_=>false)&&(B.names.all λy=>[AQ,Agd y.1,Ae y.2])&&(v.all λp=>AQ N[BE]? Aie)&&(B.names.all λy=>match y.2 with|.free=>(match i.names.lookup y.1 with|some .cell=>true|some .free=>true|_=>false)|.local=>decide (y.1∈v.map (·.1))||decide (y.1∉N)|.cell=>decide (y.1∈v.map (·.1))||decide (y.1∉N)|_=>true)
def ahc(h:sdj N i B v=Aa):zL N i B v:=by simp only[sdj,si,tZ,uw]at h;rw[UJ,⟨⟨G,z⟩,F⟩,D];show⟨?_,z,F,GX y Q,GX y Q⟩;all_goals grind
section
variable{prog:Program}{w:World}{A:Around}{R:Result->Shared->Prop}{s:Shared}{elt t0 i0 t1 i1:Expr}{ifs0 ifs1:List Expr}{scope:Scope}{pos:Pos}{it acc:Value}{env:Env}
end
section
variable{X:Cx}
end
section
variable{κ:Type}[DecidableEq κ]
def vJ(T:Anz V)(k:κ):Jz V:=Bp (T.find? λa=>Bml) Ccv
def v6(T:Anz V)(k:κ)(v:V):Anz V:=[Alu,(Bej a Bml)=Aa,T.map (λa=>DZ (a.1=k) (a.1,v) a),T++[(k,v)]]
def sjc(T:Anz V)(k:κ):Anz V:=T.filter λa=>Alr a.1 k
def lI{k:κ}(e:Ax=k):vJ (p::r) k=Bqk:=Bps vJ List.find?_cons e
def lJ{k:κ}(e:¬Ax=k):vJ (p::r) k=vJ r k:=MV vJ e
def lK(k:κ):∀T:Anz V,(Bej a Bml)=OC (vJ T k)
|[]=>rfl
|p::r=>by
 rw[wQ];rw[Um,Ax=k];·simp[lI e,Bx e,seI,Option.isSome_some]
 ·rw[lJ e,B_ e];show lK k r
def rF(T:Anz V)(k:κ)(v:V):An (v6 T k v)<=Mi+1:=by
 unfold v6;split;·rw[sr];omega
 ·rw[su,sT,sdk];omega
def uB.lL(r:uB o u):OC o=OC u:=by
 cases o with
 |none=>cases u with|none=>rfl|some _=>show Bwy
 |some _=>cases u with|none=>show Bwy|some _=>rfl
theorem uB.getD(r:uB o u)(R:RelV d y):RelV (o.getD d) (u.getD y):=by
 cases o with
 |none=>cases u with|none=>grind|some _=>show Bwy
 |some _=>cases u with|none=>show Bwy|some _=>show r
theorem KV.val{T:Anz V}{J:Anz Eh}(r:KV T J)(k:κ):uB (vJ T k) (valueAt J k):=by
 induction r with
 |nil=>show True.intro
 |@cons p q l n h t d=>
  rw[UJ,G,z];rw[Um,Ax=k]
  ·let b:valueAt (q::n) k=Ayb:=by simp[valueAt,(Dev)]
   rw[lI e,b];show z
  ·grind[valueAt,lJ]
theorem KV.any(r:KV T J)(k:κ):(Bej a Bml)=J.any λa=>Bml:=by rw[TC,KV,r];induction r with|nil=>rfl|cons h t d=>rw[wQ,wQ,d,Bk]
def KV.lM(r:KV T J)(k:κ)(R:OZ):KV (T.map λa=>DZ (a.1=k) (a.1,y) a) (J.map λa=>DZ (a.1=k) (a.1,u) a):=by induction r with|nil=>show BY|@cons p q l n h t d=>show .cons ?_ d;grind
theorem KV.put(r:KV T J)(k:κ)(R:OZ):KV (v6 T k y) (stored J k u):=by
 rw[v6,stored,r.any k];rw[Um,(J.any λa=>Bml)=Aa];·rw[Av e,Av e];show r.lM k R
 ·rw[AF e,AF e];show Paired.snoc r [Q_,R]
theorem KV.drop(r:KV T J)(k:κ):KV (sjc T k) (without J k):=by
 unfold sjc without;induction r with
 |nil=>show BY
 |@cons p q l n h t d=>
  rw[UJ,G,z];rw[wT,wT];rw[Um,Ax=k];·grind
  ·rw[Tq,a,Alr Ax k=Aa]
   rw[Tq,b,Alr CG k=Aa]
   rw[Av a,Av b];show Jo [Aj,G,z] d
theorem KV.keys{J:Anz Eh}(r:KV T J):T.map Aci=J.map Aci:=by rw[TC,KV,r];induction r with|nil=>rfl|cons h t d=>rw[tz,tz,d,Bk]
theorem KV.length{J:Anz Eh}(r:KV T J):Mi=BR:=Cnl
end
def gi(r:Kl (kV k)):(Aoq).is k u=Aa:=by cases k with|inl i=>rw[Tc,t,e,(Bqb t (u=Bcb i t))];grind[afd]|inr x=>rw[Tc,t,e,(Bqb t (u=Cig t))];grind[afe]
def rG:∀{v:QT}{W:BA},Ku (v.map kV)->ItemsAre Aoq v W|[],_,r=>by rw[Uj];show BY|k::v,_,r=>by cases r with|cons h t=>show Jo (gi h) (rG t)
abbrev KT(H:Hp):Im [EV,QT,V] [EV,QT,Fx×Eh]:=Paired [Aba,q,Ax=CG/\H (JU).1=Jh ((Ax).map kV)/\RelV BE (JU).2]
theorem KT.val{H:Hp}{T:EV QT V}{C:EV QT (Fx×Eh)}(r:KT H T C)(k:QT):uB (vJ T k) ((atKey C k).map (·.2)):=by
 induction r with
 |nil=>show True.intro
 |@cons p q l n h t d=>
  rw[Ut,G,_,z];rw[Um,Ax=k]
  ·let b:atKey (q::n) k=Ayb:=by simp[atKey,(Dev)]
   rw[lI e,b];show z
  ·grind[atKey,lJ]
def KT.lM(r:KT H T C)(k:QT)(R:OZ):KT H (T.map λa=>DZ (a.1=k) (a.1,y) a) (C.map (putAt k u)):=by induction r with|nil=>show BY|@cons p q l n h t d=>show .cons ?_ d;grind[putAt]
theorem KT.put(r:KT H T C)(k:QT)(h:BX=Jh (Caf))(R:OZ):KT H (v6 T k y) (storedH C k b u):=by
 let e:(Bej a Bml)=OC (atKey C k):=by rw[lK,(r.val k).lL,sgM]
 rw[v6,storedH,e];rw[Td,q,OC (atKey C k)=Aa];·rw[Av q,Av q];show r.lM k R
 ·rw[We,Paired.snoc]
theorem KT.keeps(r:KT H T C)(I:∀b O,BX=Jh O->M b=Jh O):KT M T C:=Brd r [Kh,z,Am HI (I _ _ (Hf).1) (Hf).2]
section
variable{P:Program}{w:World}{H:Hp}{h:Heap}{a:Addr}
def rH(t:R')(e:Qv u):tN P w H h a u:=e.ok t
def gj(t:R')(e:Qv (SY)):Bgf/\(a==Aky)=Af/\∃J,KV T J/\Cwm a J:=show tN P w H h a (SY)from rH t e
def ahd(t:R')(e:AM=As SY):Bgf/\(a==Aky)=Af/\∃J,KV T J/\Cwm a J:=gj t (AK e)
def iE(t:R')(e:AM=Jh (v.map kV)):(Bzv Aoq).is h v a:=by obtain⟨_,i,r,o,G,z,n,F⟩:=([Ako,tN P w H h a _,t a _ e]);show BF o _ n G z F (by grind[rG])
def iF(I:R')(e:Qv (Arx)):Bgf/\(a==Aky)=Af/\∃C,KT H T C/\h.DictOfH (Bzv Aoq) a C:=by
 obtain⟨z,y,C,r,o,R,B,G,E,F,D,L⟩:=([Ako,tN P w H h a _,rH I e]);show⟨z,y,_,r,o,_,_,G,E,F,D,AV x O,L⟩;let A:∀{l:Afi}{m:Afi},KT H l m->∀x∈m,(Bzv Aoq).is h Ee (Gr).1:=by intro l m q;induction q with|nil=>grind|@cons p q J n Z t d=>grind[iE]
 grind
def ahe(t:R')(e:AM=As Arx):Bgf/\(a==Aky)=Af/\∃C,KT H T C/\h.DictOfH (Bzv Aoq) a C:=iF t (AK e)
end
def yj(H:Hp)(a:Addr)(y:V)(r:Jz V):Al:=(∃T k,Qv (SY)/\y=kV k/\r=vJ T k)\/∃T k b,Qv (Arx)/\y=Nv/\BX=Jh (Caf)/\r=vJ T k
def sbF(H:Hp)(a:Addr)(y v:V)(M:Hp):Al:=(∃T k,AM=As SY/\y=kV k/\Mi<MM/\M=HG (.dK (v6 T k v)))\/∃T k b,AM=As Arx/\y=Nv/\BX=Jh (Caf)/\Mi<MM/\M=HG (.dT (v6 T k v))
theorem yj.k{A:tM}(e:AM=As SY):yj H a (kV A) (vJ T A):=AK [DP,_,A,AK e,Ab]
theorem yj.t{A:QT}(e:AM=As Arx)(l:BX=Jh (A.map kV)):yj H a (Nv) (vJ T A):=Bw [BF,_,A,b,AK e,Ab,l,Ab]
theorem sbF.k{A:tM}(e:AM=As SY)(U:Mi<MM):sbF H a (kV A) v (HG (.dK (v6 T A v))):=AK [Ds,T,A,e,Ab,U,Ab]
theorem sbF.t{A:QT}(e:AM=As Arx)(l:BX=Jh (A.map kV))(U:Mi<MM):sbF H a (Nv) v (HG (.dT (v6 T A v))):=Bw [DB,T,A,b,e,Ab,l,U,Ab]
section
variable{X:Cx}{pins:List (Addr×Obj)}{σ:St}{H:Hp}{s:Shared}{a:Addr}{y v:V}{u r:Value}{o:Option V}{A:Around}{E:Value->Shared->Prop}
theorem Inv.big(I:Bu):Aky<AR:=Nat.lt_trans Dc ((Cqe I).lt)
def ahf(F:Bks+1<Aag)(I:Bu)(g:yj H a y Abe)(R:OZ)(h:∀G d,MR H d->RelV v G->Q G d):EK NZ A (Cec Gk u) Q E:=by
 rcases g with⟨T,k,e,n,l⟩|⟨T,k,b,e,n,B,l⟩;·subst n;rw[Tk,z,j,J,i,f,gj HC e];rw[Te,G,Y,M,uB.some_of [Eb,l,Cjp]];show wpAny_getItem_of (gi R) f.mapOf Y (h _ _ (Apt) M)
 ·subst n;cases(show u=Kj b from R);rw[Tk,z,j,C,i,f,iF HC e];rw[Te,G,Y,M,uB.some_of [Eb,l,Cjp]];rw[WM,p,D,W,Y];show wpAny_getItem_heap (sgN F) (iE HC B) f D ?_;rw[W];show h _ _ (Apt) M
def ahg(F:Bks+1<Aag)(I:Bu)(g:yj H a y o)(R:OZ)(h:∀d,MR H d->Q (.bool [OC,o]) d):EK NZ A (compareOp .In u Gk) Q E:=by
 rcases g with⟨T,k,e,n,l⟩|⟨T,k,b,e,n,B,l⟩;·subst n;rw[Tk,z,j,J,i,f,gj HC e];show wpAny_in_of (gi R) j f.mapOf ?_;rw[<-(Cjp).lL,<-l];show h _ (Apt)
 ·subst n;cases(show u=Kj b from R);rw[Tk,z,j,C,i,f,iF HC e];show wpAny_in_heap (sgN F) (iE HC B) j f ?_;let q:=(Cjp).lL;rw[UI,sgM];rw[<-q,<-l];show h _ (Apt)
def rJ(I:Bu)(m:saG (AM))(P:Bot a g)(Y:∃q,QX a=Ae q)(G:tN By BD (HG O) g a O):MR (HG O) {s with heap:=g,toks:=d}:=I.write m GZ (I_ q T z [Bfe,b,T,z]) Y G
def ahh(z:Bgf)(j:(a==Aky)=Af)(i:KV T J)(f:g.DictOf Aoq a J):tN P w M g a (SY):=DL z j _ i f
def ahi(hu:Bks+1<Aag)(I:Bu)(g:sbF H a y v M)(t:OZ)(W:RelV v r)(h:∀d,MR M d->Q () d):EK NZ A (setItem Gk u r) Q E:=by
 rcases g with⟨T,k,e,n,l,p⟩|⟨T,k,b,e,n,G,l,p⟩
 ·subst n p;rw[Tk,z,j,J,i,f,ahd HC e];let B:BR<=MM:=by rw[<-Ans];show z
  let U:An (v6 T k v)<=MM:=by let:=rF T k v;omega
  show wpAny_setItem_pairs (hsz:=B) (gi t) f λS m P=>h _ ?_;let Y:∃q,S.get? a=Ae q:=let⟨q,_,_,Z,_⟩:=m;Aj q Z;show rJ I [Cps,e] P Y (ahh U j (i.put k W) m)
 ·subst n p;cases(show u=Kj b from t);rw[Tk,z,j,C,i,f,ahe HC e];let B:BC<=MM:=by rw[<-sbG i];show z
  let U:An (v6 T k v)<=MM:=by let:=rF T k v;omega
  show wpAny_setItem_heap (hsz:=B) (sgN hu) (iE HC G) f λS m P=>h _ ?_;obtain⟨q,R,w,Z,x,F,D,_,L⟩:=m;show rJ I [Cps,e] P [Aj,q,Z] ⟨U,j,_,(i.put k G W).keeps [Bz,c,O,N],q,R,w,Z,x,F,D,L⟩;rw[Adp (aff N e [GK,nomatch z])];show N
end
section
variable{X:Cx}{pins:List (Addr×Obj)}{σ:St}{H:Hp}{s:Shared}{a:Addr}{kvs:List (tM×V)}{k:tM}{u:Value}{A:Around}{E:Value->Shared->Prop}
def ahj(I:Bu)(e:Qv (.dK kvs))(h:∀t d,MR H d->Q (Aji kvs.length) d):EK NZ A (Ajd Cks [Be]) Q E:=by rw[Tk,z,j,J,i,f,gj HC e];show call_len_dict j f (by rw[<-Ans];rw[yi]at z;omega) ?_;rw[<-Ans];show h _ _ (Apt)
end
def ahk{D:St}(I:Eo)(g:yj H a y o):Bck Gk Bti:=by
 rcases g with⟨T,k,e,_,_⟩|⟨T,k,b,e,_,_,_⟩;·rw[Tk,_,_,J,_,f,gj HC e];show f.typeIs
 ·rw[Tk,_,_,C,_,f,iF HC e];show f.typeIs
def slh(b F t:TE):TS:=λD A H=>t A H λv n=>b A n λx j=>F A j λy R=>∃a w,x=Be/\sbF R a y v w/\Ben w
section
variable{X:Cx}{o i e value:Expr}{pos pos' tpos:Pos}{td ty tv:TE}
def ahl(F:Bbq+1<Aag)(Z:DF o td)(J:DF i ty)(O:DF Ang tv)(P:Aab Ang [Agl,o,i,pos'] Bzy=Nn):ML (Adc [Agl o i pos'] Ang Bv) (slh td ty tv):=by rw[Vg,E,D];show wpAny_Assign_Subscript [Cr,O S s E H _ I h,λr M⟨v,n,A,f,U⟩=>Jf (Z S M E n _ A U) λu B⟨x,j,G,m,R⟩=>Jf (J S B E j _ G R) λd N⟨y,Q,p,L,a,w,k,g,t⟩=>?_] P;subst k;rw[XN,u=RX];show ahi F p g L f λT C=>AO E w C t
end
def ahm(h:Heap)(T:Aky<GC):tN P w H (h.push Byi) GC (.dK []):=DL Bls Ag _ BY (Heap.DictOf.new h)
def sli:TE:=LU H Q (∀p,H p=Ad->Q Abf (Pd (.dK [])))
section
variable{X:Cx}{pos:Pos}
def ahn:DF (.Dict [] [] Bv) sli:=λS s D H Q I h=>wpAny_Dict_empty [DP,Amy,_,Cma (Kh q Atx) (ahm _ I.big),h _ (Adv)]
end
structure M2(X:Cx)(o:Expr)(m:Str)(apos:Pos)(e f:Expr)(cpos:Pos):Al where
 base:Afz o m (Du o)=Du o
 vK:(Gv (Avh RN (Lb [e,f])) (λx=>! Ee)&&Gv (Bsc RN (Bxw Di)) (λx=>OC Ee)&&Bl (AG ([e,f]:Hs)+AG ([]:Aqg)+(Iz [QO,([]:Aqg)] 0 1)) 30)=Aa
 line:(Crs==Cug)=Aa
 trees:Avh RN (Lb [e,f])=[Sb,(Af,Du f)]
section
variable{X:Cx}{pins:List (Addr×Obj)}{σ:St}{H:Hp}{s:Shared}{a:Addr}{y d:V}{u r:Value}{o:Option V}{A:Around}{E:Value->Shared->Prop}
end
section
variable{X:Cx}{o e f:Expr}{apos cpos:Pos}{td ty tx:TE}
end
section
variable{X:Cx}{pins:List (Addr×Obj)}{σ:St}{H:Hp}{s:Shared}{a:Addr}{kvs:List (tM×V)}{A:Around}{E:Value->Shared->Prop}
end
section
variable{X:Cx}{pins:List (Addr×Obj)}{σ:St}{H:Hp}{s:Shared}{a:Addr}{y:V}{u:Value}{A:Around}{E:Value->Shared->Prop}
end
section
variable{prog:Program}{w:World}{A:Around}{E:Value->Shared->Prop}
end
section
variable{X:Cx}
end
section
variable{X:Cx}{pins:List (Addr×Obj)}{σ:St}{H:Hp}{s:Shared}{h':Heap}
def Inv.aho{ch:Ez}(I:Bu)(k:∀b o,Ayk->HD=Ai->KS=Ai)(R:Cde (wM X IQ H b)):Bog H:=by
 let N:∀b u,BX=BW->Ayk:=I_ u e z [Cie,q,(R b z).1]
 show I.step (Acb [AO,(R b T).2.2.2.1,(R b T).2.1,(R b T).2.2.2.2.1,(R b T).2.2.2.2.2]) Ag (λb o _ _ L e _=>Ke (k b o L e)) Ag Ag Ag Ag Cgy (AV m h) (MK u) Aap;·obtain⟨o,E,B,Z,r⟩:=h;rw[TU,o,_,_,k _ o [GK,(R _ z).2.1 Ab] Z,r]
 ·show Bmo (I.sv b u e) (λc v L q=>k c v ?_ q) q q [Kh,q,q];grind
def Inv.rK{ch:Ez}{T:Addr}(I:Bu)(k:∀b o,Ayk->HD=Ai->KS=Ai)(R:Cde (wM X IQ H b))(p:AR<=T)(G:tN By BD (Aeo A) h' T A):Bog (Aeo A):=by
 let f:=Akn p;let N:∀b u,BX=BW->Ayk:=I_ u e z [Cie,q,(R b z).1]
 show I.step (KW h [AO,(R b h).2.2.2.1,(R b h).2.1,(R b h).2.2.2.2.1,(R b h).2.2.2.2.2]) Ag (λb o _ _ L e _=>Ke (k b o L e)) (EA b o _ e n) Ag (MK C) (BV b o u e) (Rx l [FY,#[]]) (AV m D) (MK u) Aap;·rw[Cmp (Bfa p)];grind
 ·rw[Cdh];grind
 ·rw[Cdh];grind
 ·rw[Cdh,e];simp
 ·obtain⟨o,E,B,Z,r⟩:=D;rw[TU,o,_,_,k _ o [GK,(R _ z).2.1 Ab] Z,r]
 ·rw[Tv,b=T];·grind[ac]
  ·rw[TV,ai h];show(I.sv b u e).cX (λc v L q=>k c v ?_ q) (λc q=>DR Cdh) λc C q=>DR Cdh
   grind
theorem Inv.lock(I:Bu)(h:H d=BW)(m:saG (BW)):∃D,MR (Ei d (.ao D u)) s:=by
 let x:=I.sv d u h;let k:∃D,Ev d=Apa:=by cases u with|lst A=>rw[Xg,_,_,_,e];grind|dK T=>rw[WJ,_,_,_,_,o,_,_,_];grind|dT T=>rw[WJ,_,_,_,_,o,_,_,_];grind|set S n=>rw[Xh,o,_,_,_,_];grind|ins C Y F=>rw[Xg,_,_,e,_];grind|ext g=>rw[Xj,_,⟨_,e⟩,_];grind|_=>show Sv m
 obtain⟨D,e⟩:=k;let G:tN By BD (Ei d (.ao D u)) Bg d (.ao D u):=by
  rw[Th,e,x.cX (I_ v _ q q) (AV b q) [Bz,b,A,q]];·rw[Adp [Jt,by rw[z,h]at q;cases q;show m]];grind
  ·rw[Adp [Jt,by rw[z,h]at q;cases q;show m]];grind
 rw[Ur,I.write Ag GZ (I_ v _ q q) [Ke,e] G]
end
section
variable{X:Cx}
def rL{D:St}(I:Eo)(o:Obj)(T:yh By BD Ar w J [AR] AR E)(st:E 0 (Acg o))(q:R J H):sgm X S D w R (PR) {s with heap:=Acg o,toks:=tk}:=by
 show⟨_,_,_,J,H,Ab,I.kept [Rx,A,Aiq],T,st,AV b h,q⟩;rw[Tq,e,b=AR]
 rw[Uo];show I.f8 Do (Adv)
end
def sjd(i j c:Int)(n:Nat):Al:=GJ 0/\AX c<1073741824/\Builtin.Range.small i j c=Aa/\Ddm i j c=n
theorem sjd.neg(M:-(2^62)<=i)(h:i<2^62)(T:-(2^62)<=j)(d:j<2^62):sjd i j Hj [DQ,i-j]:=[AO,AY,AY,PySem.W.small_down M h T d,PySem.W.rangeSize_downNat i j]
section
variable{X:Cx}{tg:Expr}
end
section
variable{X:Cx}{tg:Expr}
end
def seJ(x:Str):It:=[Bfq,_,i<Bru x,λi H v M=>M=H/\∃c,x.cps[i]?=AW/\v=Cmh,_,Bru x<=i]
def rM{K:PySem.W.Frag}(M:Addr)(x:Str)(t:Tok)(F:String)(p:F=Das\/F=Ddq):yh P w K tg (seJ x) [M] M (Abw (h.IsStrIter M F x t i))where
 mem:=AY
 obj:=λi h st b T=>by
  rw[Tq,e,b=M]
  rw[Xz,o,c,d];grind
 keep:=λi h g st k=>let⟨o,Z,r⟩:=st;Am o (k _ AN o Z) r
 item:=by
  intro X q Y m L i S s D H E I R st J;subst q Y m;rw[TZ,n,G,y,N,z,j,R M AN];let W:Walks By BD GT M [M] [M] [Bru,x] (SignAt x) (Abw (h.IsStrIter M F x t i)):=by
   rw[YH];·rw[e];show Walks.strAscii ND M x t
   ·rw[e];show Walks.strWide ND M x t
  rw[Tq,C0,Akm [Oa,Rj,Cpp,Cya,Cqi,Cpb,Cpl] F=Af]
  show W.item i s _ _ J st [HF,v,g,B,hv,l0,U];obtain⟨c,u,C,rfl⟩:=hv;let I1:QC H Cfg:=I.turned (Pj T (U b o Cqa e)) n G N z j;rw[Tj,oi,e,a,f,id l0];rw[Vh,eL (s:=Cfg) e a f C0 [BF,Cmh,H,I1,Aku u,AO Ab c C Ab,l0,Acb (R b T).1]]
 done:=by
  intro X q Y m L i S s D H E I R st J;rw[TZ,n,G,y,N,z,j,R M AN];let O:=Dbe J;rw[YH];·rw[e]at st;show wpAny_pyNext_ascii_end ND st O λg l=>Bgq (Pj T (l b o T e)) n N z j
  ·rw[e]at st;show wpAny_pyNext_wide_end ND st O λg l=>Bgq (Pj T (l b o T e)) n N z j
 self:=λA i s Q E st h=>by
  rw[YH];·rw[e]at st;show wpAny_pyIter_striter_ascii st h
  ·rw[e]at st;show wpAny_pyIter_striter_wide st h
section
variable{prog:Program}{w:World}{A:Around}{E:Value->Shared->Prop}{s:Shared}
def rN(j:(d==Aky)=Af)(Z:Ev d=Ai)(L:o.ExactDict)(h:IC=Arn R)(H:Q (PR) [Sz,Adi Cyb #[Apd,Apl,GU Btr 0,GU B 0]]):MB (Bum (Apd)):=by let p:Bck (Apd) _:=Am o Z L.1;show wpAny_pyIter_slot p Ddf (Atc Ddf p F.entry_dict_iter (F.args_dict_iter_1 _));show PP;rw[To,wpAny_notOrdered_dict p ?_];show Mb;change EK _ _ (Builtin.Dict.showsAll d>>=_) _ _;rw[Builtin.Dict.showsAll,AF Ag];rw[To,Mb];rw[To,sgO Z h ?_];rw[To,Cqp Z h];rw[To,yT (Fv ⟨_,Ab,_,_,Oi IE,sbH.lookup,?_⟩)];simpa[rawInt]using H
def ahp(t:s.heap.IsKeyIter M d i n B)(x:Ev d=Apa)(b:D.data=Arn R)(r:Btr=n)(O:R[i]?=Ae e)(H:∀g,g.IsKeyIter M d (i+1) n B->Bot M g->Q (Ae Bft) Sy):MB (Blq (AC M)):=by
 rw[Tj,o,Z,L,j,id t];unfold pyNext;rw[To,sbI (Byv Agr sbH (Atc sbH Agr sje (sjf _)))];rw[To,Mb];show PP;show PP;first|rw[To,seK Agr OV]|rw[To,seL Agr OV]
 rw[To,Ddg j];let a:Cza=Af:=DC
 rw[Wv,a];change EK _ _ (Iz ((Kj d==Bjg)=Aa) _ _) _ _;rw[Aje (show¬((Kj d==Bjg)=Aa)from yW)];rw[To,Mb];rw[To,sgO x b ?_];rw[AF [Bjh,r]];rw[To,Mb];rw[To,Cqp x b];rw[Aye];show Mb;rw[Tc,c,C,Array.getElem?_eq_some_iff.mp O];rw[Vs,show¬(MC<0)from AE,tO,sP,Array.getElem?_eq_getElem c];show PP;first|rw[To,seK Agr OV]|rw[To,seL Agr OV]
 rw[To,wpAny_isOneOf_keyiter Agr ?_];change EK _ _ (setField (AC M) 1 (Acu (MC+1))>>=_) _ _;rw[To,saT Z j AN ?_];let h:(s.heap.update M (Obj.mapFields (·.setIfInBounds 1 (rawInt ((i:Int)+1))))).IsKeyIter M d (i+1) n B:=[Ky,sbJ _ Z (sdl (zO j _)),DT (sgP ..) L,by rw[zO j];simp[rawInt]];rw[To,sdb ?_];show sbK (wpAny_isOneOf_keyiter (s:={s with heap:=s.heap.update M (Obj.mapFields (·.setIfInBounds 1 (rawInt ((i:Int)+1))))}) h.typeIs ?_);change EQ _ _ [Ek,R[i].key] _ _ _;rw[C];show Fv (Buw [Fv,(H _ h Cjs)])
def rO(f:Bbp=Ad)(t:s.heap.IsKeyIter M d i n B)(x:Ev d=Apa)(b:D.data=Arn R)(r:Btr=n)(k:n<=i)(H:∀g,Byo M Bg->Q Ad Sy):MB (Blq (AC M)):=by
 rw[Tj,o,Z,L,j,id t];unfold pyNext;rw[To,sbI (Byv Agr sbH (Atc sbH Agr sje (sjf _)))];rw[To,Mb];show PP;show PP;first|rw[To,seK Agr OV]|rw[To,seL Agr OV]
 rw[To,Ddg j];let a:Cza=Af:=DC
 rw[Wv,a];change EK _ _ (Iz ((Kj d==Bjg)=Aa) _ _) _ _;rw[Aje (show¬((Kj d==Bjg)=Aa)from yW)];rw[To,Mb];rw[To,sgO x b ?_];rw[AF [Bjh,r]];rw[To,Mb];rw[To,Cqp x b];rw[Aye];show Mb;let h:Btr<=i:=by rw[r];show k
 rw[Vs,show¬(MC<0)from AE,tO,sP,Dbe h];show PP;first|rw[To,seK Agr OV]|rw[To,seL Agr OV]
 change EK _ _ (setField (AC M) 0 BM>>=_) _ _;rw[To,saT Z j AN ?_];change EQ _ _ (newExc (DN Bxt) []>>=_) _ _ _;show PP;rw[UC,newExc,newTuple];rw[To,Ctr];show sbK (m:=firstArgMember _ _) (wpAny_of_eq (a:=Value.none) (by first|rfl|(rw[Vm,firstArgMember];rfl)) ?_);show Ctr;rw[Vm,raiseNew];rw[To,Dce];rw[Ciw Dfm Ad];rw[To,Fv (wpAny_throw ?_)];rw[To,sjg (T:=Bxt) (b:=true) [Oi,IE] isSubtype_stop ?_];show Fv (H _ (PV ((Cjs).extBut.push _) _))
end
def ahq{J:EV a Eh}(h:KV T J):∀{i:Nat}{k:a}{v:V},T[i]?=Ep k v->∃u,Bwf=Ep k u/\KQ:=by induction h<;>grind
def ahr{l:LJ}{L:Eg d}(h:Bav G l L):∀{i:Nat}{a:J},Bfs=Gj->∃b,L[i]?=Ae b/\G a b:=by induction h<;>grind
def ahs(h:xu k u=Aa):Kl (kV k):=by
 rw[Ww,cz h,i,t,rfl,x,t,rfl,rfl];·rw[TY,t]
 ·rw[TY,t]
section
variable{X:Cx}{pins:List (Addr×Obj)}{σ:St}{H:Hp}{s:Shared}{d:Addr}{o:Obj}
def Inv.lN(I:Bu)(h:H d=Pf (SY)):(d==Aky)=Af/\Ev d=Ai/\Chv/\∃(R:Bya)(B:Nat)(J:EV tM Eh),IC=Arn R/\Btr=Mi/\KV T J/\s.heap.DictAt (ye By BD) d J B:=by obtain⟨j,z,P,J,a,t,R,B,Z,O,W,r⟩:=Asj d h;rw[j]at Z;cases Z;show⟨P,j,O,R,B,J,W,?_,a,o,R,j,O,W,r⟩;let L:=AG r.2.1;let l:Mi=BR:=sbG a;rw[sgE]at L;omega
def Inv.lO(I:Bu)(h:H d=Pf (Arx)):(d==Aky)=Af/\Ev d=Ai/\Chv/\∃(R:Bya)(B:Nat),IC=Arn R/\Btr=Mi/\∀(i:Nat)(k:QT)(v:V),T[i]?=Ep k v->∃(E:DictEntry)(q:Addr),R[i]?=Ae E/\E.key=AC q/\H q=Jh (Caf):=by
 obtain⟨j,z,P,C,l,t,R,B,Z,O,W,Y,_⟩:=Asj d h;rw[j]at Z;cases Z;show⟨P,j,O,_,_,W,?_,BV i k v e⟩;·let L:=size_of_entries Y;grind[Paired.length]
 ·rw[Tk,b,A,D,N,_,ahr l e];let q:=entry_at Y i;rw[UI,A];show DP _ _ q N
end
def sjh(d:Addr)(o:Obj)(T:EV tM V):It:=[Bfq,H,H d=Pf (SY)/\i<Mi,λi H x M=>M=H/\∃k v,T[i]?=Ep k v/\x=kV k,H,H d=Pf (SY)/\Mi<=i]
def sji(d:Addr)(o:Obj)(T:EV QT V):It:=[Bfq,H,H d=Pf (Arx)/\i<Mi,λi H x M=>M=H/\∃(k:QT)(v:V)(q:Addr),T[i]?=Ep k v/\x=AC q/\H q=Jh (Caf),H,H d=Pf (Arx)/\Mi<=i]
def iG{o:Obj}(h:IC=Arn R)(g:IC=.dict a E):a=R/\E=B:=Aq
section
variable{P:Program}{w:World}{K:PySem.W.Frag}{tg:Expr}{d:Addr}{o:Obj}{es:Array DictEntry}{ep:Nat}
def aht(M:Addr)(x:IC=.dict es ep):yh P w K tg (sjh d o l0) [M] M (Abw (h.IsKeyIter M d i Bec ep))where
 mem:=AY
 obj:=λi h st b T=>by
  rw[Tq,e,b=M]
  rw[Xz,B,c,f];grind
 keep:=λi h g st k=>st.at λB e=>k _ AN _ e
 item:=by intro X q Y m L i S s D H E I R st J;subst q Y m;rw[Yn,hi];rw[TZ,n,G,y,N,z,j,R M AN];obtain⟨hs,t,O,D0,C0,vs,W,r,a,hm⟩:=I.lN hd;rw[WA,iG x W];rw[Us,⟨k,v⟩,Z,p,l0[i]?=Aat,_,Dz hi];rw[UT,F,ru,ahq a Z];let U:=sbG a;rw[U]at st;show wpAny_pyNext_dict_item st hm F [EA,C,g,E0,G0,sb];let I1:=Cew (I_ ob T e [DT,sb.2 b T,e]) n N z j;rw[Tj,B,e,c,f,id G0];rw[Vh,eL e c f Em ⟨_,H,I1,ahs (show xu k _=Aa from E0),DL Ab k v Z Ab,?_,Acb (R b T).1⟩];grind
 done:=by intro X q Y m L i S s D H E I R st J;rw[Yn,hi];rw[TZ,n,G,y,N,z,j,R M AN];obtain⟨hs,t,O,D0,C0,vs,W,r,a,hm⟩:=I.lN hd;rw[WA,iG x W];show rO ND st t W r hi λg l=>Bgq (I_ ob T e (l b ob T e)) n N z j
 self:=λA i s Q E st h=>wpAny_pyIter_keyiter st h
def ahu(M:Addr)(x:IC=.dict es ep):yh P w K tg (sji d o C0) [M] M (Abw (h.IsKeyIter M d i [AG,C0] ep))where
 mem:=AY
 obj:=λi h st b T=>by
  rw[Tq,e,b=M]
  rw[Xz,B,c,f];grind
 keep:=λi h g st k=>st.at λB e=>k _ AN _ e
 item:=by intro X hP Y m L i S s D H E I R st J;rw[Yn,hi];rw[TZ,n,G,y,N,z,j,R M AN];obtain⟨hs,t,O,a,E0,W,r,l0⟩:=I.lO hd;rw[WA,iG x W];rw[Us,⟨k,v⟩,Z,p,C0[i]?=Aat,_,Dz hi];rw[Tk,en,q,C,u,hq,l0 i k v Z];show ahp st t W r C [Bz,g,D0,U];let I1:=Cew (I_ ob T e [Mh,b,T,e]) n N z j;rw[Tj,B,e,c,f,id D0];rw[Vh,eL e c f Em [BF,AC q,H,I1,u,BF Ab k v q Z Ab hq,D0,Acb (R b T).1]]
 done:=by intro X hP Y m L i S s D H E I R st J;rw[Yn,hi];rw[TZ,n,G,y,N,z,j,R M AN];obtain⟨hs,t,O,a,E0,W,r,l0⟩:=I.lO hd;rw[WA,iG x W];show rO ND st t W r hi λg l=>Bgq (I_ ob T e (l b ob T e)) n N z j
 self:=λA i s Q E st h=>by show wpAny_pyIter_slot Cuh Czo (Atc Czo Cuh F.entry_dict_keyiterator_iter (F.args_dict_keyiterator_iter_1 _));show Fv [BF,_,Ab,Cyb,_,Cuh,sbH.lookup,h]
end
def slj(b:TE):TI:=λD H R=>b D H λx n=>∃d o,x=Apd/\((∃T,n d=Pf (SY)/\R (sjh d o T) n)\/∃T,n d=Pf (Arx)/\R (sji d o T) n)
section
variable{X:Cx}{tg e:Expr}{td:TE}{apos cpos:Pos}
def ahv(Y:DF e td):PI X tg e (slj td):=by
 rw[Vg,D,R];show Jf (Y S s D H _ I h) λu m⟨x,n,A,F,d,o,k,q⟩=>?_;subst k;obtain rfl:u=Kj d:=F;rcases q with⟨T,j,q⟩|⟨T,j,q⟩;·obtain⟨P,t,O,C,B,J,W,r,a,G⟩:=A.lN j;show rN P t O W (Byd _ (aht _ W) [Cmu,IE,Ab] q);rw[r]<;>rfl
 ·obtain⟨P,t,O,C,B,W,r,E⟩:=A.lO j;show rN P t O W (Byd _ (ahu _ W) [Cmu,IE,Ab] q);rw[r]<;>rfl
end
end L2
section
namespace slk
open PySem PyProof.Rows
end slk
end
section
namespace TL
open PySem PySem.Builtin PySem.Builtin.Str PySem.StrLaws
abbrev tl(x:Str):Ak:=x.cps.toList
def seM(S l:Ak):Bh:=Bun Cvv==S
def sll(S:Ak):Ak->NC Ak (Ak×Ak)|_,[]=>none|E,c::r=>[CH,seM S (c::r)=Aa,Ep E ((c::r).drop Cvv),sll S (E++OG) r]
def ahw(S r:Ak)(h:GJ s):seM (s::S) (c::r)=Af:=by cases Y:seM .. with|false=>rfl|true=>let e:=BO Y;grind
def lP{q:Ak}(h:s∉p):∀i,i<AG p->seM (s::S) ((p++q).drop i)=Af:=Jl V (by grind[List.length_append,List.drop_eq_getElem_cons,ahw])
def ahx(y:Str)(p:Dl):Txt.join y p=Str.join y p:=glued_eq_join y _
end TL
end
namespace L2
open PySem PySem.Spec PyProof.Rows
def lQ:∀{O:Dl}{W:BA},Ku (O.map V.str)->StrsAre W O|[],_,.nil=>BY|y::O,_,.cons r t=>by rw[VN,k];show .cons y k (lQ t)
section
variable{X:Cx}{pins:List (Addr×Obj)}{σ:St}{H:Hp}{s:Shared}{Q:VK}
end
section
variable{X:Cx}
def ahy:yU X "str.join" (λx C H Q=>∃a p,∃O:List Str,x=.str a/\C=[.ref p]/\(vY X.K H p (O.map V.str)\/vZ X.K H p (O.map V.str))/\(O.map (·.length)).sum+O.length*a.length<=16777216/\Q (.str (Txt.join a O)) H):=by
 intro S s D H x C v W Q I m J h;rw[WU,a,p,O,rfl,Y,B,h];rw[UQ];cases J with
 |cons g J=>
  cases J;cases g;rcases Y with Y|Y;·rw[VB,i,r,⟨o,n,Z,L,_,j⟩,_,Y];show join_list [DL,o,Z,L,n,j] (lQ r) B λd k=>Lv Bfm (I.tok k) SE h
  ·rw[Vy,i,r,A,_,Y];show join_tuple A (lQ r) B λd k=>Lv Bfm (I.tok k) SE h
end
section
variable{X:Cx}{o e:Expr}{to te:TE}
def sjj(r:V->Qg)(to te:TE):TE:=λD H Q=>to D H λx n=>(∃a,x=Cw a)/\te D n λy j=>r x [y] j Q
def ahz{id:String}{i p:Pos}(M:Slot Bmm O id)(T:typeOf (Asd)=Ek (Cph))(rule:yU X id r)(Z:DF o to)(Y:Bhe e)(P:Lb [e]=[Sb]:=by rfl)(l:Afz o O (Du o)=Du o:=by rfl)(c:(Bky i==Fu p)=Aa:=by rfl):[Ef,Hk (Hn o O i) [e] p,sjj r to te]:=by rw[UZ];show Call_method1 l P c (Big (Z S s D H _ I h) v m);obtain⟨⟨a,rfl⟩,U⟩:=U;rw[VR,t,_root_.id g];show[DB,Bmm,_,F.plainAttrs_str,M,T,typeIs_str _ _ _,KJ e Bzd,sgH Ab (Calls.evalArgs_plain (Calls.spliced_cons ?_))];show Jf (Y S m D n _ A U) λu B⟨y,j,G,C,R⟩=>Ddp (rule S B D j _ [y] _ [u] Q G g (EJ C) R)
def ahA{i s:Pos}(Z:DF o to)(Y:Bhe e)(P:Lb [e]=[Sb]:=by rfl)(l:Afz o Ccw (Du o)=Du o:=by rfl)(c:(Bky i==Amz)=Aa:=by rfl):DF (Hk (Hn o Ccw i) [e] s) (sjj (λx C H Q=>∃a p,∃O:List Str,x=.str a/\C=[.ref p]/\(vY X.K H p (O.map V.str)\/vZ X.K H p (O.map V.str))/\(O.map (·.length)).sum+O.length*a.length<=16777216/\Q (.str (Txt.join a O)) H) to te):=ahz F.slot_str_join F.type_str_join ahy Z Y P l c
end
section
variable{X:Cx}
end
end L2
namespace slm
open PySem PySem.W PySem.Calls PyProof.Rows
section
variable{prog:Program}{w:World}{A:Around}{E:Value->Shared->Prop}{s:Shared}{K:Frag}
end
end slm
namespace L2
open PySem PySem.Spec PyProof.Rows
def sln(s:Stmt):Cui:=match s with|.FunctionDef _ a _ _ _ _ _ _ _ _=>a|_=>{posonlyargs:=[],args:=[],vararg:=none,kwonlyargs:=[],kw_defaults:=[],kwarg:=none,defaults:=[]}
def sjk(s:Stmt):Acz:=match s with|.FunctionDef _ _ b _ _ _ _ _ _ _=>b|_=>[]
def seN(s:Stmt):Bmn:=match s with|.FunctionDef _ _ _ _ _ _ i _ _ _=>i|_=>{kind:=Oh,names:=[],isGenerator:=false,isCoroutine:=false}
abbrev sjl:yR:=λ_ _ _ _ _ _=>Agm
structure sjm(K:PySem.W.Frag)(x qual:Str)(st:Stmt)(f:Addr)(fd:FuncData):Al where
 ex:∃(oc:Value)(od:Mx)(kV doc pm:Value)(an:Mx)(cdv ct:Value)(osl:Bba (EU)),fd=PySem.W.fnOf x qual (sln st) (sjk st) (seN st) BM kV doc pm an cdv ct/\Agn f=Ae [AO,oc,od,.func fd,osl]/\Cfv cdv qual=Aa
 kp:Amb K f=Aa
section
variable{P:Program}{w:World}{K:PySem.W.Frag}{mg:Str->Option Value}{base:Heap}
theorem sjm.ok{st:Stmt}(F:sjm K x L st f u)(S:sc9 N l (seN st))(W:∀J H Q E,c J H Q E->BR=Ah)(e:∀(z:Value)(A:Around)(X:Ox)(s:Shared)(H:Hp)(J:Ba)(Q:VK)(E:XK),tS k (Bkh (Alh L (seN st) f z))->c J H Q E->∃t,vm (u3 sjl P w K mg DU N L (seN st) f z A X s H E).zF (sjk st) t/\t [Chf,M,Q Bt M] (Bsw J) H):sR P w K mg DU sjl (k+1) f u l c:=by obtain⟨m,D,kV,d,p,C,z,I,O,rfl,b,G⟩:=F.ex;show qY b G S W λA X s H J Q E B g=>?_;rw[Te,t,h,q,e z A X s H J Q E B g];rw[Tp,t,h.zF,q]
end
section
variable{X:Cx}
end
def wU(H M:Hp):Al:=∀b o,BX=Ai->M b=Ai
theorem wU.refl(H:Hp):wU H H:=Kh h h
theorem wU.trans(a:wU H n)(b:wU n j):wU H j:=λc o h=>b c o (a c o h)
theorem wU.free(e:wU H M)(h:M l=Chp):H l=Chp:=by cases q:H l with|none=>rfl|some o=>rw[Tg,e l o q];grind
theorem wU.seq{K:PySem.W.Frag}(e:wU H M)(h:Pl a C):vY K M a C:=by
 rcases h with(h|⟨o,h⟩)|h;·rw[TB,(AK (e _ _ h))]
 ·rw[TB,(Kq o (e _ _ h))]
 ·rw[TN,h]
section
variable{κ:Type}[DecidableEq κ]
end
theorem wU.made(h:H x=Chp)(N:H Y=Chp)(k:∀b o,(sU (Ei Y (Lu x)) x (Aaa Y [])) b=Ai->EW x->n b=Ai):wU H n:=MF (k b o (by rw[Boa e h,Boa e N];show e) (qu e h))
end L2
open Core hiding uF D E sM Gt wF It S c1 y9 uq aun ev ex bC at1 vv zb dt eM u2
namespace sj
open PySem PySem.Spec PyProof.Rows L2
structure yD where
 qual:BG
 params:Cui
 body:Expr
 scope:Bmn
 sG:Dl
 uo:Dl
structure Nm where
 K:Crr
 ca:Aw->Fx
 fa:Aw->Fx
 gh:Ez
 tb:EV Fx BG
 lam:Bhs yD
def Nm.w(N:Nm)(g:Ez):Nm:={N with gh:=g}
def strOf(s:Ak):BG:=Np [HU,s]
def xl:Aw->Dl|0=>[Ccz,Aru,"hangs_on",Cun]|1=>["x","y",Chb]|2=>["spots","factors",Aqi,Bdm]|3=>[Cjj,"dx","dy"]|4=>[Cwc,"aside",Avq]|5=>[Btj,Bkq]|6=>[DG]|_=>[]
abbrev Bs:=QE Mx
def zr:BU HO|.uO _=>true|_=>false
def vl:BU HO|.uO _=>false|.ao _ (.own _)=>false|_=>true
def o7(h:Afg=Aa):zr o=Af:=by cases o<;>first|rfl|rw[Tf]
def Pn(B:Bs)(H:Hp)(a:Addr)(o:Obj):Al:=AM=Pf (Lu 0)/\Gj∉B
def zu(o:Obj)(q:Str):Al:=∃J t,IC=Qy J/\J[1]?=As (.str q t)
def sly(B:Bs)(H:Hp)(T:Fx×BG):Al:=∃l,H T.1=Acx l/\TriplesOk Cwn/\∀s w,Cgt s l=Ae w->∃c m,w=RU/\Pn B H c m/\zu m T.2
def NB(N:Nm)(B:Bs)(a:Addr):Al:=Gj∉B/\a∉EB
def KT(K:PySem.W.Frag)(a:Addr)(J:Ba):Al:=Cqc (Agn a=Ai/\Aea=Adm/\IC=Brw i/\Cu i.size/\sJ J Cad)
def scA(p:Bm×FG):tM×V:=(Alc Ax,match BE with|.int i=>CI|_=>Bt)
section
variable(N:Nm)(B:Bs)(H:Hp)
mutual
def Rf:Im FG V|.sD,v=>v=Bt|.bl b,v=>v=Mz|.int i,v=>v=CI|.str s,v=>v=Ft KE/\Qc<=Alq|.tup C,v=>∃a J,v=Be/\((AM=Jh J/\Qt)\/KT AS a J)/\sQ C J|.lst C,v=>∃a J,v=Be/\AM=FH J/\Qt/\sQ C J|.dict T,v=>∃a o,v=Be/\AM=Pf (.dK (Bjz))/\Qt/\Brr i (BE=CI)|.obj c I,v=>∃a Y J,v=Be/\AM=Pr IN Y (SX J)/\Qt/\KN=Ayg/\sQ I J|.uh C,v=>∃a o,v=Be/\AM=Pf [DK,Bbx]/\Qt|.fn f,v=>v=AC Ig|.cell _,_=>False|.sG _ _,_=>False termination_by structural d=>d
def sQ:Im FD Ba|[],J=>J=[]|d::O,J=>∃u W,J=u::W/\Rf d u/\sQ O W termination_by structural d=>d
end
end
end sj
namespace sj
open PySem PySem.Spec PyProof.Rows L2
structure Le(B:Bs)(H:Hp)(B':Bs)(H':Hp):Al where
 len:RJ<=B'.length
 old:∀i a,i<RJ->B'[i]?=IX->Anj=IX
 fz:∀a o,zr o=Af->AM=Ai->Gj∉B->NJ=Ai/\Gj∉B'
 kd:∀(i:Nat)(a C dx:Addr)(fs:Apf),Anj=IX->AM=Pr C dx fs->∃fs',B'[i]?=IX/\NJ=Pr C dx fs'/\fs'.map Aci=fs.map Aci
theorem Le.rfl:Md B H:=[AO,Ach,Ir _ _ _ h,λ_ _ _ G z=>Aj G z,λ_ _ _ _ I G z=>Ky G z (Eq.refl _)]
theorem Le.trans(x:DV)(y:Le L M b c):Md b c:=[AO,Li x.len y.len,Ir i a A (x.old i a A (y.old i a (MD A x.len) h)),λa o I G z=>let⟨U,R⟩:=x.fz a o I G z;y.fz a o I U R,λi a C Y F G z=>let⟨s,U,R,t⟩:=x.kd i a C _ _ G z;let⟨f,Q,q,k⟩:=y.kd i a C _ _ U R;Ky Q q (k.trans t)]
section
variable{N:Nm}{B B':Bs}{H H':Hp}
theorem NB.mono(E:∀a o,zr o=Af->AM=Ai->Gj∉B->NJ=Ai/\Gj∉B')(I:zr o=Af)(G:AM=Ai)(h:Qt):NJ=Ai/\Ckt B':=Am (E _ _ I G Bk).1 (E _ _ I G Bk).2 Ck
variable{g:List Addr}
mutual
theorem Rf.gen(E:∀a o,Afg=Aa->AM=Ai->Qt->NJ=Ai/\NB Br B' a):∀{d:Core.D}{v:V},RZ->Rf Br B' H' d v|.sD,v,h=>h|.bl b,v,h=>h|.int i,v,h=>h|.str s,v,h=>h|.tup _,v,h=>Bld a J G F [HH,a,G.imp (λq=>E _ _ Ab CG JU) id,Bey E F]|.lst _,v,h=>by rw[WQ,a,J,G,z,F];show OT a _ (E _ _ Ab G z).1 (E _ _ Ab G z).2 [Bey,E,F]|.dict _,v,h=>by rw[WQ,a,o,G,z,F];show OT a o (E _ _ Ab G z).1 (E _ _ Ab G z).2 F|.obj c _,v,h=>by obtain⟨a,Y,J,rfl,G,z,F,D⟩:=h;show DB a _ _ Ab (E _ _ Ab G z).1 (E _ _ Ab G z).2 F [Bey,E,D]|.uh _,v,h=>Bld a o G z [Gd,a,o,(E _ _ Ab G z).1,(E _ _ Ab G z).2]|.fn f,v,h=>h|.cell _,_,h=>h|.sG ..,_,h=>h termination_by structural d=>d
theorem sQ.gen(E:∀a o,Afg=Aa->AM=Ai->Qt->NJ=Ai/\NB Br B' a):∀{O:FD}{J:Ba},Adb O->sQ Br B' H' O J|[],J,h=>h|d::O,J,h=>Bld u W G z [HH,u,Rf.gen E G,Bey E z]termination_by structural d=>d
end
theorem Rf.mono(E:∀a o,zr o=Af->AM=Ai->Gj∉B->NJ=Ai/\Gj∉B')(h:RZ):Rf N B' H' d v:=Rf.gen (λa o O G z=>z.mono E Aju G) h
theorem sQ.mono(E:∀a o,zr o=Af->AM=Ai->Gj∉B->NJ=Ai/\Gj∉B')(h:Adb O):sQ N B' H' O J:=Bey (λa o A G z=>z.mono E (o7 A) G) h
theorem sQ.length:∀{O:FD}{J:Ba},Adb O->LF=BR|[],J,h=>by obtain rfl:J=[]:=h;rfl|d::O,J,h=>by rw[Vx,u,W,G,z];rw[sT,sT,length z]
theorem sQ.get:∀{O:FD}{J:Ba}{i:Nat}{d:Core.D},Adb O->O[i]?=Ea->∃v,Bwf=Fj/\RZ|[],J,i,d,h,e=>Aq|y::O,J,0,d,h,e=>by rw[Vx,u,W,G,z];grind|y::O,J,i+1,d,h,e=>by rw[Vx,u,W,G,z];rw[Te,v,U,R,sQ.get z Bii];grind
theorem sQ.append:∀{O R:FD}{J W:Ba},Adb O->Acw R W->Acw (O++R) (J++W)|[],R,J,W,h,k=>by obtain rfl:J=[]:=h;grind|d::O,R,J,W,h,k=>Bld u l G z [HH,u,G,append z k]
theorem sQ.take:∀{O:FD}{J:Ba}(n:Nat),Adb O->Acw (O.take n) (J.take n)|[],J,n,h=>Csc|d::O,J,0,h=>rfl|d::O,J,n+1,h=>Bld u l G z [HH,u,G,sQ.take n z]
theorem sQ.drop:∀{O:FD}{J:Ba}(n:Nat),Adb O->Acw (O.drop n) (J.drop n)|[],J,n,h=>Csc|d::O,J,0,h=>h|d::O,J,n+1,h=>by rw[Vx,u,l,G,z];show drop n z
theorem sQ.set:∀{O:FD}{J:Ba}{d:Core.D}{v:V}(i:Nat),Adb O->RZ->Acw (O.set i d) (J.set i v)|[],J,d,v,i,h,k=>Csc|e::O,J,d,v,0,h,k=>Bld u l G z [HH,v,k,z]|e::O,J,d,v,i+1,h,k=>Bld u l G z [HH,u,G,set i z k]
theorem sQ.ints{C:Ao}:Acw (Bbx) (Bbx):=by induction C with|nil=>rfl|cons x C d=>show HH _ Ab d
theorem sQ.int_inv:∀{C:Ao}{J:Ba},Adb (Bbx)->J=Bbx|[],J,h=>h|x::C,J,h=>by rw[Vx,u,W,G,z];rw[G,int_inv z];rfl
def Ro(N:Nm)(B:Bs)(H:Hp):Im FG V|.cell i,v=>i<RJ/\∃a,v=Be/\∀b,Anj=Apq b->b=a|d,v=>RZ
abbrev wG(L:yD)(M:IG)(X:Value)(c:Addr)(j:Value):Obj:=PySem.W.kla_obj Bbk Ng Bri Amh QK M X c j
def Rp(N:Nm)(B:Bs)(H:Hp):Im FG V|.cell i,v=>i<RJ/\∃a,v=Be/\∀b,Anj=Apq b->b=a|.sG f O,v=>∃a L c m M X j,v=Be/\Bgw f=Aoz/\Pn B H a (wG L M X c j)/\Pn B H c m/\zu m Ng/\Cww=L.sG/\Cgd/\LS (λd x=>∃k A u w,Avw x=Ja/\Pn B H k A/\NQ A=Atu/\Kl w/\Ro N B H d w) OW|d,v=>RZ
theorem Pn.mono(q:Ayo)(h:Pn B H a o):Pn B' H' a o:=q.fz _ _ Ab Bk Ck
theorem Ro.wide(q:Ayo)(J:[Bea,a∈EB,AM=Ad])(h:Ro N B H d v):Ro Br B' H' d v:=by let E:∀a o,Afg=Aa->AM=Ai->Qt->NJ=Ai/\NB Br _ a:=λa o O G z=>Am (q.fz a o Aju G HI).1 (q.fz a o Aju G HI).2 (λA=>(J a A).elim Hf Cbv);cases d with|cell i=>rw[VP,G,a,rfl,z];rw[Ts,MD G q.len,a,Ab,KW e (z b (q.old i b G e))]|_=>show Rf.gen E h
theorem Rp.wide(q:Ayo)(J:[Bea,a∈EB,AM=Ad])(h:Pa):Rp Br B' H' d v:=by cases d with|cell i=>rw[Wq,FX i,q,J,h]|sG f O=>obtain⟨a,L,c,m,M,X,j,rfl,W,G,z,F,D,C,I⟩:=h;show⟨a,L,c,_,_,_,_,Ab,W,G.mono q,z.mono q,F,D,C,Brd I λd x⟨k,A,u,w,U,R,t,Q,E⟩=>⟨k,_,u,w,U,Bqa,t,Q,E.wide q J⟩⟩|sD=>rw[Wq,Bt,q,J,h]|bl b=>rw[Wq,Mz,q,J,h]|int b=>rw[Wq,Alf,q,J,h]|str b=>rw[Wq,Cw b,q,J,h]|tup b=>rw[Wq,BH b,q,J,h]|lst b=>rw[Wq,CW b,q,J,h]|dict b=>rw[Wq,Pw b,q,J,h]|obj c b=>rw[Wq,Ll c b,q,J,h]|uh b=>rw[Wq,.uh b,q,J,h]|fn b=>rw[Wq,.fn b,q,J,h]
theorem Rp.of(h:RZ):Pa:=by cases d<;>first|show h|rw[TJ]
theorem Rp.pure(p:Abi=Aa)(h:Pa):RZ:=by cases d<;>first|show h|cases p
theorem Rp.mono(q:Ayo)(h:Pa):Afu B' H' d v:=wide q Ag h
def RC(N:Nm)(B:Bs)(H:Hp)(o:Mx):JH uR|.lst C=>∃a J,o=Gj/\AM=FH J/\Ajz|.obj c I=>∃a Y J,o=Gj/\AM=Pr IN Y (SX J)/\KN=Ayg/\Adb I|.dict T=>∃a,o=Gj/\AM=As (.dK (Bjz))/\Brr i (BE=CI)|.dead=>o=Ad
theorem RC.gen(E:∀a o,Afg=Aa->AM=Ai->Qt->NJ=Ai/\NB Br B' a)(same:∀a,o=Gj->NJ=AM)(h:RC N B H o c):RC Br B' H' o c:=by cases c with|lst C=>rw[Vx,a,J,G,z];show HH a Ag (z.gen E)|obj c I=>obtain⟨a,Y,J,rfl,G,z,F⟩:=h;show BF a _ _ Ab [DT,same a Ab,G] z (F.gen E)|dict T=>rw[VP,a,rfl,G,z];rw[Ts,a,Ab,Ag,z]|dead=>show h
theorem RC.mono(E:∀a o,zr o=Af->AM=Ai->Gj∉B->NJ=Ai/\Gj∉B')(same:∀a,o=Gj->NJ=AM)(h:RC N B H o c):RC N B' H' o c:=RC.gen (λa o O G z=>z.mono E Aju G) same h
def Gh(N:Nm)(B:Bs)(H:Hp):Al:=(∀g∈N.gh,(∃o,Afg=Aa/\H g=Ai)/\Ae g∉B)/\∀T∈N.tb,sly B H T
structure RS(N:Nm)(B:Bs)(H:Hp)(st:sd):Al where
 len:Iv=RJ
 at_:∀(i:Nat)(c:uR)(o:Mx),st[i]?=AW->Anj=Ai->RC N B H o c
 inj:∀(i j:Nat)(a:Addr),Anj=IX->B[j]?=IX->i=j
 gh:Gh N B H
theorem RS.there{st:sd}(S:A_){i:Nat}(h:Anj=IX):∃o,AM=Ai:=by
 let A:i<Iv:=Ckr
 let q:=Ahr _ _ (Dz A) h;cases L:st[i]with|lst C=>rw[UI,L];rw[XJ,b,e,G,_];grind|obj c I=>rw[UI,L];rw[XO,b,Y,J,e,G];grind|dict T=>rw[UI,L];rw[XD,b,e,_];grind|dead=>rw[UI,L];cases q
def RS.o8{st:sd}(S:A_){i:Nat}(h:Anj=IX)(l:Aae):AM≠Acx l:=by
 let A:i<Iv:=Ckr
 let q:=Ahr _ _ (Dz A) h;cases L:st[i]with|lst C=>rw[UI,L];rw[XJ,b,D,G,_];grind|obj c I=>rw[UI,L];rw[XO,b,Y,J,D,G];grind|dict T=>rw[UI,L];rw[XD,b,D,_];grind|dead=>rw[UI,L];cases q
def RS.cy{st:sd}(S:A_)(h:H p=Ad):NB N B p:=by
 rw[Th,FC A,FC A];·rw[Tc,i,e,sas A];rw[Tc,o,Z,Ccf e];grind
 ·rw[Te,o,_,Z,(Bez p A).1];grind
def RS.hO{st:sd}(S:A_)(q:Ayo)(I:∀a l,AM=Acx l->NJ=Acx l):Gh N B' H':=[Aj,λg J=>let⟨⟨o,O,G⟩,z⟩:=Bez g J;Aj [Am,o,O,(q.fz g o Aju G z).1] (q.fz g o Aju G z).2,λT p=>let⟨l,G,z,F⟩:=Cme p;[Ky,I _ _ G,z,HK s w [Cri,F _ _ e,DL c _ U Bqa t]]]
def cf{st:sd}(S:A_)(h:H p=Ad):Md B (Pd o):=[AO,Ach,λ_ _ _ e=>e,λa u _ G z=>Aj Bbb z,λi a C Y I G z=>Ky G Bbb Ab]
theorem RS.new{st:sd}(S:A_)(h:H p=Ad):Aum N (Pd o):=[AO,S.len,λi c u G z=>(Ahr c u G z).mono (cf S h).fz λa e=>by rw[Uo];show Ceg (by rw[Tc,q,Z,Ccf z];grind),S.inj,S.hO (cf S h) [HK,a,l,Bbb]]
theorem RS.gen{st:sd}(S:A_)(E:∀a o,Afg=Aa->AM=Ai->Qt->NJ=Ai/\NB Br B a)(same:∀a,Gj∈B->NJ=AM)(b:Gh Br B H'):Aum Br H':=AO S.len (λi c u G z=>(Ahr c u G z).gen E λa e=>Aq) S.inj b
end
end sj
namespace sj
open PySem PySem.Spec PyProof.Rows L2
def XR(N:Nm)(B:Bs)(H:Hp)(x:Ao)(Y:Addr):Al:=∃a,H Y=As [Qh,(Fd,Be)]/\NB N B Y/\AM=Aia Cfx/\Qt
def sW(N:Nm)(B:Bs)(H:Hp)(Q:VK)(E:XK):Bsl FG|.ok d S=>∀v M L,DV->Aka->Afu L M d v->Q v M|.err x S=>∀c Y M L,DV->Aka->XR N L M x Y->E c NI M|.stuck=>False
theorem sW.mono(q:DV)(h:Bxf r):Su L M r:=by cases r with|ok d st=>showλv j w l S R=>h v j w (Bjm) S R|err x st=>showλc Y j w l S R=>h c Y j w (Bjm) S R|stuck=>show h
theorem sW.bind(h:De Avs)(k:∀d s,r=Jd s->∀v M L,DV->Apj->Afu L M d v->Su L M (f d s)->o v M):Bid B H o r:=by cases r with|ok d st=>showλv M L l S R=>k d st Ab v M L l S R (Bzz h)|err x st=>show h|stuck=>show h
def uf(c f:Nat):Bh:=CH (c=Cc) [Gp,82<=f/\f<=85] [CH,c=101,Gp (Cc<=f/\f<=112),Af]
def sfK:BU FG|.sG _ _=>true|_=>false
def Ty(N:Nm)(B:Bs)(H:Hp)(c:Nat)(d:Core.D):Al:=[Gz,c<Cc,∃(k:Nat)(a Y:Addr)(I:Apf),d=FX k/\Aah=IX/\AM=Pr IN Y I/\Avm=Auv,[Bsa,c=102,sfK d=Aa,∃f,d=.fn f/\uf c f=Aa]]
theorem Ty.mono(q:Md b M)(h:Ty N B H c d):Ty N b M c d:=by
 rw[Wn,Ty,h];rw[Tn];·rw[TF,L];rw[Av L];rw[WU,k,a,Y,I,G,z,R];rw[Tj,s,F,D,A,q.kd k a _ Y I G z];show DB k a Y s Ab F D (A.trans R)
 ·rw[TF,L];rw[AF L];show h
theorem Ty.is(L:c<Cc)(h:Ty N B H c d)(r:Pa):∃a Y I,v=Be/\AM=Pr IN Y I/\Avm=Auv:=by rw[Tu,Ty];rw[Vq,L];rw[WU,k,a,Y,I,G,z,R];rw[Wi,_,b,F];rw[Ul,F a G];show Ds a Y I Ab z R
structure Cl where
 c:Cls
 τ:Ayn
instance:Coe Cl Cls:=Np Cl.c
structure RE(N:Nm)(τ:Ayn)(B:Bs)(H:Hp)(σ:L2.St)(ρ:Core.sM):Al where
 len:ρ.length=Bqe
 vK:ρ.length<99
 at_:∀i d,Aiy ρ=Ea->∃v,σ[i]?=Apq v/\Pa
 ty:∀p∈τ,∃d,Auo ρ Ax=Ea/\Ty N B H BE d
theorem RE.mono(q:DV)(h:RE N C B H D A):RE N C L M D A:=[AO,h.len,h.vK,HK i d [Chh,h.at_ i d e,v,U,Bqa],Kg [Chh,h.ty p Y,v,U,Bqa]]
theorem RE.wide(q:DV)(J:[Bea,a∈EB,AM=Ad])(h:RE N C B H D A):RE Br C L M D A:=[AO,h.len,h.vK,HK i d [Chh,h.at_ i d e,v,U,R.wide q J],Kg [Chh,h.ty p Y,v,U,Bqa]]
def o9{A:Core.sM}(h:i<Aas):Aiy (MS (Ea))=Ea:=by unfold Core.uj;rw[yN h];rfl
def pf(h:i≠j):Auo (MS d) j=Auo A j:=Auz Core.uj (zC h)
theorem RE.set(h:RE N F B H D A)(r:Pa)(I:∀p∈F,Ax≠i):RE N F B H (D.set i Abe) (MS (Ea)):=by
 rw[Ts,by rw[wv,wv];show h.len,Dfw wv,Bz j e C,JQ];rw[Td,E,i=j]
 ·subst E;rw[Td,U,i<Aas];·rw[o9 U]at C;cases C;rw[Tp,v,yN (MD U (seH h.len)),r]
  ·rw[sjY (sie U)]at C;rw[TC,Core.uj,C];rw[zj (sie U)]at C;cases C
 ·rw[pf E]at C;rw[UT,Q,R,h.at_ j e C];rw[Tp,u,by rw[zC E];show Q,R]
 rw[UT,Q,R,h.ty p Y];rw[Tp,u,by rw[pf (uc (I p Y))];show Q,R]
section
variable(N:Nm)(X:Cx)(E:XK)(cl:Cl)
def wH(O:Expr)(e:Core.E):Al:=∃t:TE,DF O t/\∀D H B A st Q,Akf->A_->De Anl->t D H Q
def vR(N:Nm)(B:Bs)(H:Hp)(Q:Bmi)(E:XK):Bsl FG|.ok (.bl b) S=>∀M L,DV->Aka->Q b M|.ok _ _=>False|.err x S=>∀c Y M L,DV->Aka->XR N L M x Y->E c NI M|.stuck=>False
def sif(O:Expr)(e:Core.E):Al:=∃t:TT,PT X O t/\∀D H B A st Q,Akf->A_->vR N B H Q E (Anl)->t D H Q
def uL(N:Nm)(B:Bs)(H:Hp)(Q:LC Ba)(E:XK):Bsl (FD)|.ok O S=>∀J M L,DV->Aka->LS (Rp N L M) J->Q J M|.err x S=>∀c Y M L,DV->Aka->XR N L M x Y->E c NI M|.stuck=>False
def sjZ(P:Hs)(R:Es):Al:=∃t:TA,Ajm P t/\∀D H B A st Q,Akf->A_->uL N B H Q E (MZ R A)->t D H Q
end
section
variable{N:Nm}{X:Cx}{E:XK}{cl:Cl}
theorem sW.ok{st:sd}(h:De Btv)(S:A_)(r:Pa):Ov v:=h v H B ES S r
def sW.eD{st:sd}(h:De Btv)(S:A_)(r:RZ):Ov v:=h v H B ES S (Ayt r)
theorem sW.new{st:sd}(h:De Btv)(S:A_)(Y:H p=Ad)(r:NB N B p->Md B (Pd o)->Rf N B (Pd o) d Abf):Q Abf (Pd o):=h _ _ B (cf S Y) (S.new Y) (Ayt (r (S.cy Y) (cf S Y)))
def vR.ph(h:vR N B H Q E r):Bid B H (λx M=>∃k,x=Ff k/\Q k M) r:=by
 cases r with
 |ok d st=>cases d with|bl b=>showλv M L l S R=>Am b R (h M L l S)|_=>rw[TJ]
 |err x st=>show h
 |stuck=>show h
theorem vR.mono(q:DV)(h:vR N B H Q E r):vR N L M Q E r:=by
 cases r with
 |ok d st=>cases d with|bl b=>showλj w l S=>h j w (Bjm) S|_=>rw[TJ]
 |err x st=>showλc Y j w l S R=>h c Y j w (Bjm) S R
 |stuck=>show h
def adb(p:Bht Ayc):Bc (Ayc) (Ael):=by rw[Tp,Bfd,p,Bil D B A Q r S h];rw[Ti,e,M_ (Ael)=LA (Aiy A)];rw[Tg,e];cases g:Aiy A with|none=>rw[Tg,g];rw[TJ]|some d=>rw[Tg,g];rw[Te,v,U,R,Bdo d g];rw[Tp,v,U,sW.ok h S R]
def hW(p:DF O (tC v))(r:∀B H,RZ):Bc O (.lit d):=by rw[Tp,tC v,p,Bil D B A Q C S h];show Agf h (r B H)
def cW(Z:Hz (Cod J) r)(M:GE)(T:Bc b l)(k:Cgb (A_->FT->Hb->Asn o x y->r v u H Q)):Bc (.BinOp a J b s) (.bin o t l):=by rw[Vl];rw[V_,Y,c];rw[Tp,sbB r L O,afM Z C Y,Bil D B A Q F S h];rw[US,Ms Btc Btx y [Agh,o,x,y]];show Bkw D A st F (QY λx d _ v n W U R g G=>?_);show c D n W A d _ (Bup U) R (Arz λy e _ u j w I p P z=>?_);show k p (Avk) P z
def anL(Z:Hz (Age J) r)(f:Bit J b=Af)(M:GE)(T:Bc b l)(k:Cgb (A_->FT->Hb->Aei o x y->r v u H Q)):Bc (Avg [J] [b] s) (.cmp o t l):=by rw[Vl];rw[V_,Y,c];rw[Tp,sbB r L O,af0 Z C Y f,Bil D B A Q F S h];rw[US,Ms Btc Btx y [IB,o,x,y]];show Bkw D A st F (QY λx d _ v n W U R g G=>?_);show c D n W A d _ (Bup U) R (Arz λy e _ u j w I p P z=>?_);show k p (Avk) P z
def anM(h:Bc O e)(Y:∀c,Clx O c=(do let v<-c;standAt O.pos;holding [v] (truthy v))):Qn N X E O e:=by rw[Ut,t,p,q];rw[Tp,tB t,afo p Y,λD H B A st Q r S h=>Ajk D A h.ph]
def anN(Z:Hz (Age J) r)(f:Bit J b=Af)(U:GE)(T:Bc b l)(k:Cgb (A_->FT->Hb->Aei o x y->r v u H Q)):Qn N X E (Avg [J] [b] s) (.cmp o t l):=by rw[VD,L,C,q];rw[V_,Y,d];rw[XU,af1 Z C Y f,D,A,Q,F];let h:Bid B H (λx M=>∃k,x=Ff k/\Q k M) (Ms Btc Btx y [IB,o,x,y]):=h.ph;show Bkw D A st F (QY λx e _ v n W c R g G=>?_);show d D n W A e _ (Bup c) R (Arz λy i _ u j w I p P z=>?_);show k p (Avk) P z
theorem vR.bindB(h:vR N B H Q E (Bra x [Kp,Lx,f]))(k:∀b s,r=Se Mz->∀M L,DV->Apj->vR N L M Q E (f b s)->o b M):vR N B H o E r:=by
 cases r with
 |ok d st=>cases d with|bl b=>showλM L l S=>k b st Ab M L l S (vR.mono l h)|_=>rw[TJ]
 |err x st=>show h
 |stuck=>show h
def anO(M:Qn N X E a t):Qn N X E (Bqm .Not s) (.not t):=by rw[Vl];rw[UD,aft C];rw[TM,vR N B H Q E (Ms Btc Lx b [GA,(! b)])];show Ajk D A (Arm λb F _ n W Z o G=>G n W ES o)
end
section
variable{N:Nm}{X:Cx}{E:XK}{cl:Cl}{B:Bs}{H:Hp}{st:sd}{Q:VK}
def eE(S:A_)(r:Pa)(h:Bgy d=Jr):∃a J,v=Be/\AM=FH J/\Ajz:=by
 cases d with
 |lst O=>rw[Tf];rw[XA,a,J,G,z,F];grind
 |cell i=>
  rw[TM,Czs st[i]? CU=CU];rw[Wi,A,b,w];rw[Tq,l,i<Iv]
  rw[Tg,Ass];let q:=Ahr _ _ (Ass) (Dz A);cases L:st[i]with|lst O=>rw[L]at h q;rw[XJ,a,e,G,z];grind|_=>grind
 |_=>rw[Tf]
def adc(S:A_)(r:Pa)(h:Anv d=Jr):∃a J,v=Be/\(NS AS J\/vY AS H a J)/\Ajz:=by
 cases d with
 |tup O=>
  rw[Tf];rw[WE,a,J,G,z];show HH a Are z;rw[YA,_];·show Buf
  ·rw[TN,G]
 |uh O=>rw[Tf];rw[WE,a,o,G,_];show HH a [Bw,(AK (Kq o G))] Clt
 |lst O=>rw[Vn,a,J,G,z,eE S r h];show HH a [Bw,(Buf)] z
 |cell i=>rw[Vn,a,J,G,z,eE S r h];show HH a [Bw,(Buf)] z
 |_=>rw[Tf]
def eF(r:Afy (KG) v):∃a J,v=Be/\NS AS J/\Ajz:=by
 rw[WE,a,J,G,z];show Ath a _ Ab z;rw[YA,_];·show Buf
 ·rw[TN,G]
def zv(r F:R2):R2:=λx y H Q=>r x y H Q\/F x y H Q
def dN(h:Hz f r)(g:Hz f F):Hz f (zv r F):=λS s D H x y v u Q I m R q=>q.elim (λq=>h _ s _ H x y v u Q I m R q) λq=>g _ s _ H x y v u Q I m R q
theorem sW.guard(h:De (v7 b st d)):b=Aa/\De Btv:=by
 rw[Tu,v7];rw[Td,T,b=Aa];·grind
 ·rw[UY,T];rw[TJ]
def pi:Cu Alq:=DC
def kc(h:sY a b=Aa):Cu (a+b):=EI Aoo pi
def anP(a b:Ak):JG (a++b)=JG a++JG b:=Cuc ((Np _)=Str.append [Np,_] [Np,_]) Str.append
def anQ(a:Ak):An [JG,a]=HY:=Ch
def sj_(K:PySem.W.Frag):R2:=λx y H Q=>∃a b O,x=Be/\y=Nv/\NS K []/\vZ K H b O/\Jn Nv
def sfL(K:PySem.W.Frag):R2:=zv (zv (Ayu (i+j)) λx y H Q=>∃i j,x=Cw i/\y=Cw j/\Cu (Ans+Ate)/\Jn [Ft,i++j]) (zv (zv (siW K) (sj_ K)) si3)
def anR(S:A_)(m:FT)(R:Hb)(h:De [Bdr,x,y]):sfL AS v u H Q:=by
 let L:∀{x y:Core.D}{v u:V}{C O:Afi},FT->Hb->Bgy x=Jr->Bgy y=Ae O->De [Cam,sY BC LF,DK (C++O)]->sfL AS v u H Q:=by intro x y v u C O m R k n h;rw[WC,U,h];rw[Vn,a,J,G,z,eE S m k];rw[Vn,b,W,F,D,eE S R n];let U:=kc U;rw[LH,D.length]at U;rw[VX,⟨a,b,_,_,Ab,Ab,G,F,U,Kg [Alv,h,S,Y,A,q,OT p _ ac A [Aws,(z.append D),q]]⟩]
 let l:∀{x y:Core.D}{v u:V},FT->Hb->De [Daq,Bgy x,Bgy y,Cam (sY AD CK) [DK,x++y]]->sfL AS v u H Q:=by intro x y v u m R h;cases k:uS _ x with|none=>rw[Tg,k];rw[TJ]|some C=>cases n:uS _ y with|none=>rw[k,n]at h;rw[TJ]|some O=>grind
 cases x with
 |int i=>cases y with|int j=>rw[Uk];rw[Ue];rw[TB,(AK [Gd,i,j,Ab,Ady])]|_=>show l m R h
 |str s=>
  cases y with
  |str t=>
   rw[Xu,_];rw[Yj,_];rw[WC,U,h];rw[TB,(Bw ⟨_,_,Ab,Ab,?_,?_⟩)];·show kc U
   ·rw[<-anP];show Agf h [Q_,Cb su [Cm,U]]
  |_=>show l m R h
 |tup C=>
  cases y with
  |tup O=>
   rw[WC,U,h];rw[Vn,a,J,G,z,eF m];rw[Vn,b,W,F,D,eF R];let U:=kc U;rw[LH,D.length]at U;rw[Uv,Are];rw[Um,J=[]];·rw[Uo];let:=sd8.mp LH;rw[VF];rw[TN,DB a b _ Ab Ab G F (sW.ok h S R)]
   ·rw[TB,⟨a,b,_,_,Ab,Ab,G,F,e,U,FC e,Bz e p Y⟩];·rw[Uo];let:=sd8.mp Cjf;rw[VF];rw[Tg,ud];show sW.ok h S m
    ·show Alv h S Y A q [HH,p,FJ ac A,Aws (z.append D) q]
  |_=>show l m R h
 |sD=>show l m R h
 |bl b=>show l m R h
 |lst C=>cases y<;>show l m R h
 |dict T=>show l m R h
 |obj c I=>show l m R h
 |uh C=>show l m R h
 |fn f=>show l m R h
 |cell i=>cases y<;>show l m R h
 |sG f d=>show l m R h
def lu{r:R2}(m:FT)(R:Hb)(h:Asn o x y)(A:∀i j,x=CI->y=EC->r OU (EC) H Q)(Z:(∀i j,¬(x=CI/\y=EC))->Agh o x y=AJ):r v u H Q:=by
 rw[Td,c,∃i j,x=CI/\y=EC];·obtain⟨i,j,rfl,rfl⟩:=c;rw[Uk];rw[Ue];grind
 ·rw[Tg,Z λi j q=>c [Am,i,j,q]];rw[TJ]
def anS(h:∀i j,¬(x=CI/\y=EC)):Agh .sub x y=AJ:=by cases x<;>cases y<;>first|rfl|grind
def anT(S:A_)(m:FT)(R:Hb)(h:Asn .sub x y):(Ayu (i-j)) v u H Q:=lu m R h (λi j k n=>by subst k;subst n;show Gd i j Ab Ady) anS
end
section
variable{N:Nm}{X:Cx}{E:XK}{cl:Cl}{B:Bs}{H:Hp}{st:sd}{Q:VK}
def pj(i:Int):Dax<=uE i+1:=by grind[Builtin.Int.intBits,uE]
def anU:Aoi .Mult [Buc,(Mv (tj i j=Aa)),i*j]:=iy λi j _ _ _ _ _ L q=>mul_int q (by
 let L:=Cm L;let G:=pj i;let z:=pj j;rw[Ti,e,tr=Cvy];let A:bitsLine=134217728:=DC
 unfold IntMulOk Builtin.Int.intTooBig;rw[si,uw];omega)
def anV:Aoi .LShift [Buc,(Mv (t_ i j=Aa)),i*2^Jk]:=iy λi j _ _ _ _ _ L q=>by rw[TC,t_,L];let G:=pj i;rw[Ti,e,tr=Cvy];grind[lshift_int]
def anW(Y:∀S D H s,Eo->Ctu GT s):Aoi .FloorDiv [Bux,j,CV j,i.fdiv j]:=by intro S s D H x y v u Q I m R h;rw[WQ,i,j,rfl,L,q];rw[UQ];rw[U_];show floordiv_int L Bgt (Bw (Y _ D H s I))
def ade(h:0<=i)(C:0<=j):Dfh j=Ay (JT&&&Jk):=by grind[Builtin.bitAnd]
def anX(h:0<=i):¬0<=Crm i:=Dad
def anY(i:Int):Crm (Crm i)=i:=Dad
def anZ(h:0<=i)(C:0<=j):Builtin.bitOr i j=Ay (JT|||Jk):=by grind[Builtin.bitOr,Builtin.bitAnd,decide_eq_false,anX,anY]
def an_(a b:Nat):(a^^^b)+2*(a&&&b)=a+b:=by
 let C:∀(n:Nat)(a b:Nat),a<2^n->b<2^n->(a^^^b)+2*(a&&&b)=a+b:=by
  intro n;induction n with
  |zero=>grind
  |succ n d=>
   intro a b M T;let h:=d (a/2) (b/2) Ac Ac;let x:=Nat.xor_div_two (a:=a) (b:=b);let v:=Nat.and_div_two (a:=a) (b:=b);let j:(a^^^b)%2=((a%2)^^^(b%2)):=Nat.xor_mod_two_pow (n:=1);let z:(a&&&b)%2=((a%2)&&&(b%2)):=Nat.and_mod_two_pow (n:=1);let D:((a%2)^^^(b%2))+2*((a%2)&&&(b%2))=a%2+b%2:=by rcases sj0 a with p|p<;>rw[Wr,sj0 b]<;>rw[p,q]<;>rfl
   grind
 show C _ a b (sdG Ac Dbh) (sdG (Nat.le_add_left b a) Dbh)
def an0(h:0<=i)(C:0<=j):Dfi j=Ay (JT^^^Jk):=by rw[bitXor_and,ade h C];grind[an_]
def hY{gD:Bm->Bm->FG}{c:Bm->BU Bm}(L:∀i j,c i j=Aa->C i j)(J:∀i j,C i j->Aqt N (gD i j) (g i j))(d:∀i j,Agh o OU (EC)=[MH,c i j,gD i j])(A:∀x y,(∀i j,¬(x=CI/\y=EC))->Agh o x y=AJ)(S:A_)(m:FT)(R:Hb)(h:Asn o x y):rI C g v u H Q:=lu m R h (λi j k n=>by subst k;subst n;rw[Tg,d];rw[WC,G,z];show[OT,i,j,Ab,L i j G,Agf z Ag]) (A x y)
def adf(h:o=Bvk\/o=.mod\/o=.shl\/o=.shr\/o=Bvl\/o=.bor\/o=.bxor)(x y:Core.D)(k:∀i j,¬(x=CI/\y=EC)):Agh o x y=AJ:=by rcases h with rfl|rfl|rfl|rfl|rfl|rfl|rfl<;>(cases x<;>first|rfl|(cases y<;>first|rfl|grind))
def an1(S:A_)(m:FT)(R:Hb)(h:Asn Bvk x y):([Bux,j,CV j,i.fdiv j]) v u H Q:=hY (gD:=Mv Ahf) Ag (λi j _=>Ab) (Mv Ab) (adf GZ) S m R h
def an2(S:A_)(m:FT)(R:Hb)(h:Asn .mod x y):([Bux,j,CV j,i.fmod j]) v u H Q:=hY (gD:=Mv Ahf) Ag (λi j _=>Ab) (Mv Ab) (Bwk) S m R h
def an3(S:A_)(m:FT)(R:Hb)(h:Asn .shl x y):(Buc (Mv (t_ i j=Aa)) (i*2^Jk)) v u H Q:=hY (gD:=Mv Ahf) Ag (λi j _=>Ab) (Mv Ab) (Bwk) S m R h
def an4(S:A_)(m:FT)(R:Hb)(h:Asn .shr x y):([Bux,j,0<=j,i/2^Jk]) v u H Q:=hY (gD:=Mv Ahf) Ag (λi j _=>Ab) (Mv Ab) (Bwk) S m R h
def sj1(f:Aw->Aw->Aw):R2:=rI (Mv (0<=i/\0<=j)) [Mv,Cjo (f JT Jk)]
def pk{g:Bm->Bm->Bm}(h:Hz F (Ayu (g i j)))(e:∀i j,0<=i->0<=j->g i j=Ay (f JT Jk)):Hz F (sj1 f):=by intro S s D H x y v u Q I m R q;obtain⟨i,j,rfl,rfl,⟨G,z⟩,q⟩:=q;show h _ s _ H _ _ v u Q I m R [Gd,i,j,Ab,Aq]
def pq(d:∀i j,Agh o OU (EC)=ym f st i j)(g:∀x y,(∀i j,¬(x=CI/\y=EC))->Agh o x y=AJ)(S:A_)(m:FT)(R:Hb)(h:Asn o x y):sj1 f v u H Q:=hY (gD:=Mv Ahf) Ag (λi j _=>Ab) d g S m R h
end
section
variable{N:Nm}{X:Cx}{E:XK}{cl:Cl}{B:Bs}{H:Hp}{st:sd}{Q:VK}
theorem sW.opt(h:Cng o):∃d,o=Ea/\De Btv:=by cases o with|none=>rw[TJ]|some d=>rw[Vu,d,h]
def adg(h:JG a=JG b):a=b:=by rw[Tu,strOf];rw[WD];simpa using Dfg h
def slz(K:PySem.W.Frag):R2:=zv siO (si8 K)
def slA(K:PySem.W.Frag):R2:=zv siP (si9 K)
def adh:∀{C:FD}{D:Ao},Bgl=Apa->C=Cai|[],D,h=>Crq|x::C,D,h=>by cases x with|int i=>rw[TM,Cja Bgl=Apa];rw[VA,J,G,h];rw[adh G];rfl|_=>rw[Tf]
def adi{K:PySem.W.Frag}:∀(D:Ao),saS K H (D.map V.int) (D.map PyData.int)|[]=>BY|i::D=>Jo OU (adi D)
def adj:∀(a b:Ao),Chq (Cwt) (Cwu)=AQ a b
|[],[]=>rfl
|[],_::_=>rfl
|_::_,[]=>rfl
|x::a,y::b=>by
 let h:Chq (JX (x::a)) (JX (y::b))=((x==y)&&Chq (Cwt) (Cwu)):=by change Chq (AZ x::Cwt) (AZ y::Cwu)=_;rw[PyData.eqvAll,PyData.eqv]
 rw[h,adj a b,sbC];simp
def adk:∀D:Ao,PyData.canLayAll0 (Cai)=Aa|[]=>Hy yY PyData.canLayAll0|i::D=>by rw[tz,PyData.canLayAll0,adk D,PyData.canLay0];rfl
def adl:∀D:Ao,PyData.depthAll (Cai)<=1|[]=>Cvt yY PyData.depthAll|i::D=>by let h:=adl D;rw[tz,PyData.depthAll,PyData.depth]<;>first|omega|(intro _ h;rw[Tf])
def adm(D:Ao):Bpb (.tuple (Cai))=Aa:=by let h:=adl D;unfold SeqAt.shaped;rw[PyData.canLay0,adk,PyData.depth,Db];rfl
def adn(r:Afy (KG) v)(h:Bgl=Apa):Dp AS H v (.tuple (Cai)):=by rw[Vn,a,J,G,z,eF r];rw[adh h]at z;rw[T_,z.int_inv];show .tup G (adi D)
def ado(m:FT)(R:Hb)(h:saV x y=Ae b):(sgq v u=Aa/\AQ v u=b)\/∃d e,Dp AS H v d/\Dp AS H u e/\Bpb d=Aa/\Bpb e=Aa/\Cte e=b:=by
 cases x with
 |int i=>cases y with|int j=>rw[Uk];rw[Ue];rw[Ul,Akx];rw[TB,Alw];rw[kW,sbC];simp|_=>rw[Tf]
 |bl i=>cases y with|bl j=>rw[Uk];rw[Ue];rw[Ul,Akx];rw[TB,Alw];rw[kX,sbC];simp|_=>rw[Tf]
 |str i=>cases y with|str j=>rw[Xu,_];rw[Yj,_];rw[Ul,Akx];rw[TB,Alw];rw[kY,sbC,uw,sey];rw[Th,adg,E_ [Asc,e]]|_=>rw[Tf]
 |tup C=>
  cases y with
  |tup O=>rw[TM,([Czm,Bgl,wX O,AQ x y])=Ae b];cases k:Bgl with|none=>rw[Tg,k];rw[Tf]|some D=>cases n:wX O with|none=>rw[k,n]at h;rw[Tf]|some J=>rw[k,n]at h;rw[Ul,Akx];rw[TN,⟨_,_,adn m k,adn R n,adm D,adm J,?_⟩];rw[PyData.eqv,adj]
  |_=>rw[Tf]
 |_=>rw[Tf]
def an5(S:A_)(m:FT)(R:Hb)(h:Aei .eq x y):slz AS v u H Q:=by
 let h:Cng (Cee (saV x y)):=by cases x<;>show h
 rw[Xc,d,e,h];rw[VA,b,A,e];let q:=sW.eD h S (v:=Mz) Ab;rcases ado m R A with⟨G,z⟩|⟨d,e,G,z,F,D,L⟩;·show FJ G [Biu,z]
 ·rw[TN,BF d e G z F D [Biu,L]]
def an6(S:A_)(m:FT)(R:Hb)(h:Aei .ne x y):slA AS v u H Q:=by
 let h:Cng (IP (saV x y) c [Ed,! c]):=by cases x<;>show h
 rw[Xc,d,e,h];rw[VA,b,A,e];let q:=sW.eD h S (v:=Ed (! b)) Ab;rcases ado m R A with⟨G,z⟩|⟨d,e,G,z,F,D,L⟩;·show FJ G [Biu,z]
 ·rw[TN,BF d e G z F D [Biu,L]]
def ke{g:Bm->BU Bm}(S:A_)(m:FT)(R:Hb)(h:Aei o x y)(A:∀i j,IB o OU (EC)=GA (g i j))(Z:(∀i j,¬(x=CI/\y=EC))->IB o x y=AJ):(Atq (g i j)) v u H Q:=by
 rw[Td,c,∃i j,x=CI/\y=EC];·obtain⟨i,j,rfl,rfl⟩:=c;rw[Uk];rw[Ue];rw[Tg,A];show Gd i j Ab Ady
 ·rw[Tg,Z λi j q=>c [Am,i,j,q]];rw[TJ]
def kf(h:o=.lt\/o=.le\/o=.gt\/o=.ge)(k:∀i j,¬(x=CI/\y=EC)):IB o x y=AJ:=by rcases h with rfl|rfl|rfl|rfl<;>(cases x<;>first|rfl|(cases y<;>first|rfl|rw[T',Aku Ab,(k _ _)]))
def an7(S:A_)(m:FT)(R:Hb)(h:Aei .lt x y):(Atq [Bl,i,j]) v u H Q:=ke S m R h (Kv) (kf AN)
def hZ(S:A_)(m:FT)(R:Hb)(h:Aei .le x y):(Atq [Bn,i,j]) v u H Q:=ke S m R h (Kv) (kf AN)
def an8(S:A_)(m:FT)(R:Hb)(h:Aei .gt x y):(Atq [Bl,j,i]) v u H Q:=ke S m R h (Kv) (kf AN)
def an9(S:A_)(m:FT)(R:Hb)(h:Aei .ge x y):(Atq [Bn,j,i]) v u H Q:=ke S m R h (Kv) (kf AN)
end
section
variable{N:Nm}{X:Cx}{E:XK}{cl:Cl}{B:Bs}{H:Hp}{st:sd}{Q:VK}
def adp(r:FT):AQ v Bt=wy x:=by cases x with|sD=>rw[Uj];rfl|bl b=>rw[Uj];rfl|int i=>rw[Uj];rfl|str s=>rw[Yi,_];rfl|tup C=>rw[Wi,a,J,_];rfl|lst C=>rw[Wi,a,J,_];rfl|dict C=>rw[Wi,a,o,_];rfl|obj c I=>obtain⟨a,Y,J,rfl,_⟩:=r;rfl|uh C=>rw[Wi,a,o,_];rfl|fn f=>rw[Uj];rfl|cell i=>rw[Wi,_,a,_];rfl|sG f O=>obtain⟨a,_,_,_,_,_,_,rfl,_⟩:=r;rfl
def aoa(S:A_)(m:FT)(R:Hb)(h:Aei .is x y):u=Bt/\Atp [AQ,v,Bt]:=by cases y with|sD=>rw[Ue];rw[VY,Cb (adp m) Ady]|_=>cases x<;>rw[TJ]
def aob(S:A_)(m:FT)(R:Hb)(h:Aei .zP x y):u=Bt/\Atp (! AQ v Bt):=by cases y with|sD=>rw[Ue];rw[VY,Cb (adp m) Ady]|_=>cases x<;>rw[TJ]
def adq(r:Clm x)(f:yn x=Aa):wP v=Aa:=by cases x with|int i=>rw[Uj];rfl|str i=>rw[Yi,_];rfl|_=>cases f
def adr:∀{C:FD}{J:Ba},Ajz->C.all yn=Aa->J.all wP=Aa|[],J,r,_=>Dfz (J=[])|x::C,J,r,f=>by rw[WE,u,W,G,z];rw[Vp,f];rw[xz,adq G f.1,adr z f.2];rfl
def aoc(m:Clm x)(R:Aqt N y u)(n:yn x=Aa)(f:yn y=Aa):yV u v=(saV x y==Bwm):=by
 cases x with
 |int i=>cases y with|int j=>rw[Uk];rw[Ue];change(j==i)=(CU==CU);grind|str j=>rw[Uk];rw[Yj,_];rfl|_=>cases f
 |str i=>cases y with|str j=>rw[Xu,_];rw[Yj,_];change(JG j==JG i)=(CU==CU);grind[adg]|int j=>rw[Xu,_];rw[Ue];rfl|_=>cases f
 |_=>cases n
def ads(m:Clm x)(n:yn x=Aa):∀{O:FD}{W:Ba},Acw O W->Bgu yn=Aa->seD v W=seO x O|[],W,r,_=>Dfz (W=[])|y::O,W,r,f=>by rw[WE,u,W,G,z];rw[Vp,f];let d:=ads m n z f.2;grind[seD,seO,aoc]
def sj2:R2:=λx y H Q=>∃a o,y=Be/\yj H a x o/\Jn [Ff,OC o]
def aod(F:Bbq+1<Aag):Hz (Age .In) sj2:=by intro S s D H x y v u Q I m R h;rw[Vx,a,o,g,q];rw[Ue];show ahg F I g m λd k=>DP Bel H k q
def sih(K:PySem.W.Frag):R2:=zv (si1 K Af) sj2
def pr(S:A_)(r:Pa)(h:xC st d=Ae T):∃a,v=Be/\Qv (.dK (Bjz))/\Brr i (BE=CI):=by
 cases d with
 |dict O=>rw[Tf];rw[XA,a,o,G,z,F];rw[Ts,a,Ab,Kq o G,F]
 |cell i=>
  rw[TM,(match st[i]? with|some (.dict C)=>CU|_=>none)=CU];rw[Wi,A,b,w];rw[Tq,l,i<Iv]
  rw[Tg,Ass];let q:=Ahr _ _ (Ass) (Dz A);cases L:st[i]with|dict O=>rw[L]at h q;rw[Tf];rw[XD,a,e,z];rw[Ul,w a Ag];rw[Ts,a,Ab,Azy,z]|_=>grind
 |_=>rw[Tf]
def kh(k:Int):∀T:Bkf FG,vJ (Bjz) (Bnz:tM)=IP [Bcg,k] d (scA (k,d)).2
|[]=>rfl
|(j,d)::T=>by
 let I:=kh k T;rw[tz,tX];rw[Wn,vJ,I];rw[List.find?_cons];rw[Tv,k=j];·subst h;rw[sfM,Bx (Avb (scA _).1 Bnz)];rfl
 ·rw[B_ (show¬(scA _).1=(Bnz)from Ceh [Om,Sum.inl.inj e])];grind
def aoe(S:A_)(m:FT)(r:Hb)(h:Aei .vp x y):sih AS v u H Q:=by
 let t:∀{O:Afi},y=BH O->De [MH,yn x&&Bgu yn,Ed (seO x O)]->sih AS v u H Q:=by intro O e h;rw[Uo];rw[WC,R,h];rw[si]at R;rw[Vn,a,W,G,z,eF r];let I:=m.pure (by cases x<;>first|rfl|rw[T',R.1,yW]);rw[TB,⟨a,_,Ab,Bw G,adq I R.1,adr z R.2,?_⟩];rw[ads I R.1 z R.2];show Ady
 let D:∀{k:Int},x=AZ k->Cng ([IP,xC st y,T,Ed [Bej,p,AQ Ax k]])->sih AS v u H Q:=by
  intro k e g;rw[Uo];rw[Uk];obtain⟨d,e,h⟩:=g.opt;rw[VA,T,A,e];rw[Tj,a,rfl,G,z,pr S r A];rw[TN,Bcm a Ab [AK,DP _ Bnz G Ab]];rw[kh,sgM];let:OC (Bcg k)=Bej p [AQ,Ax,k]:=by
   clear h G z A g e;induction T with
   |nil=>rfl
   |cons p T i=>
    obtain⟨j,d⟩:=p;rw[tX,wQ];rw[Tv,k=j];·subst h;simp
    ·rw[Arl h,B_ (Ceh Aww)];show i
  rw[this];show Ady
 cases y with|tup O=>show t Ab (by cases x<;>show h)|_=>cases x with|int k=>show D Ab h|_=>rw[TJ]
end
section
variable{N:Nm}{X:Cx}{E:XK}{cl:Cl}
def aof(M:GE):Bc (Bqm .USub s) (.neg t):=by rw[Vl];rw[UD,qH qI C];show Gw (QY λx F _ v n W Z o g G=>?_);cases x with|int i=>cases g;rw[Vu,i,Arr G Ab]|_=>rw[Vc]
theorem sW.bindB(h:De [Bra,x,Kp Lx f])(k:∀b s,r=Se Mz->∀M L,DV->Apj->Su L M (f b s)->o (Mz) M):Bid B H o r:=by
 cases r with
 |ok d st=>cases d with|bl b=>showλv M L l S R=>by rw[Ue];show k b _ Ab _ _ l S (Bzz h)|_=>rw[TJ]
 |err x st=>show h
 |stuck=>show h
def sW.ki(h:De [Bra,x,Kp Lx f])(k:∀b s,r=Se Mz->∀M L,DV->Apj->Su L M (f b s)->o b M):vR N B H o E r:=by
 cases r with
 |ok d st=>cases d with|bl b=>showλM L l S=>k b _ Ab _ _ l S (Bzz h)|_=>rw[TJ]
 |err x st=>show h
 |stuck=>show h
def aog(M:GE):Bc (Bqm .Not s) (.not t):=by rw[Vl];rw[UD,afw C];show Gw (Arm λb F _ n W Z o G=>Am b Ab [Arr,G,Ab])
def aoh(L:Qn N X E c f)(M:GE)(T:Bc b l):Bc (.IfExp c a b s) (.ite f t l):=by rw[WH,k,m,d];rw[Wh,J,C];rw[V_,Y,F];rw[UD,afx m C Y];show d _ H B _ _ _ r S (h.ki λp I _ n W Z o G=>?_);cases p with|true=>show q _ _ _ _ _ Q IT o G|false=>show F _ _ _ _ _ Q IT o G
def aoi(hm:Cjx .LtE .LtE [b,c]=Af)(M:GE)(T:Bc b l)(L:Bc c f):Bc (Avg [.LtE,.LtE] [b,c] s) (Bgj t l f):=by rw[Wh,ta,C];rw[V_,Y,qb];rw[WH,k,m,d];rw[Vk,af2 gb gb C Y m hm,σ,Q];show Gw (QY λx l0 _ v n W Z o g G=>?_);show qb _ _ _ _ _ _ IT o (Arz λy C0 _ u j B2 I S2 P h2=>?_);show hZ S2 (Avk) P (h2.bindB λp D0 J R B3 i e F=>Azd p);cases p with|true=>show d _ _ _ _ _ _ (Aht (Ccg (Bsq i))) e (sW.bind F λz E0 _ w H4 B4 l4 S4 U D=>hZ S4 (P.mono (i.trans l4)) U D)|false=>show sW.eD F e Ab
def aoj(hm:Cjx .LtE .LtE [b,c]=Af)(M:GE)(T:Bc b l)(L:Bc c f):Qn N X E (Avg [.LtE,.LtE] [b,c] s) (Bgj t l f):=by rw[Wh,ta,C];rw[V_,Y,qb];rw[WH,k,m,d];rw[Vk,af3 gb gb C Y m hm,σ,Q];show Gw (h.ph.bind λx l0 _ v n W Z o g G=>?_);show qb _ _ _ _ _ _ IT o (Arz λy C0 _ u j B2 I S2 P h2=>?_);show hZ S2 (Avk) P (h2.bindB λp D0 J R B3 i e F=>Azd p);cases p with|true=>show d _ _ _ _ _ _ (Aht (Ccg (Bsq i))) e (sW.bind F λz E0 _ w H4 B4 l4 S4 U D=>hZ S4 (P.mono (i.trans l4)) U D)|false=>show sW.eD F e Ab
def aok(M:GE):Bc (Ade Hi s) [Azr,(EJ t)]:=by rw[Vl];rw[UD,qD C];show Gw (Arm λb F _ n W Z o G=>Arr G Ab)
def aol(M:GE):Bc (Adn Hi s) (.or (EJ t)):=by rw[Vl];rw[UD,qD C];show Gw (Arm λb F _ n W Z o G=>Arr G Ab)
def aom{sX:Hs}(M:GE)(T:Bc (Ade (b::sX) s) [Azr,NT l R]):Bc (Ade (a::b::sX) s) [Azr,Sm t l R]:=by rw[Vl];rw[V_,Y,F];rw[UD,afu C Y];show Gw (Arm λp I _ n W Z o G=>Azd p);cases p with|true=>show F _ _ _ _ _ Q IT o G|false=>show Arr G Ab
def aon{sX:Hs}(M:GE)(T:Bc (Adn (b::sX) s) (.or [NT,l,R])):Bc (Adn (a::b::sX) s) (.or [Sm,t,l,R]):=by rw[Vl];rw[V_,Y,F];rw[UD,afv C Y];show Gw (Arm λp I _ n W Z o G=>Azd p);cases p with|true=>show Arr G Ab|false=>show F _ _ _ _ _ Q IT o G
variable(N X E cl)in def yE(O:Expr)(e:Core.E):Al:=∃t:TT,PW X O t/\∀D H B A st Q,Akf->A_->vR N B H Q E (Anl)->t D H Q
theorem yE.t(h:yE N X E cl O e):Qn N X E O e:=let⟨T,p,q⟩:=h;Am T p.pt q
def aoo(M:Qn N X E a t):yE N X E cl (Ade Hi s) [Azr,(EJ t)]:=by rw[Vl];rw[UD,afp C];show Gw (Arm λb F _ n W Z o G=>G _ _ ES o)
def aop(M:Qn N X E a t):yE N X E cl (Adn Hi s) (.or (EJ t)):=by rw[Vl];rw[UD,afq C];show Gw (Arm λb F _ n W Z o G=>G _ _ ES o)
def aoq{sX:Hs}(M:Qn N X E a t)(T:yE N X E cl (Ade (b::sX) s) [Azr,NT l R]):yE N X E cl (Ade (a::b::sX) s) [Azr,Sm t l R]:=by rw[Vl];rw[V_,Y,F];rw[UD,afr C Y];show Gw (Arm λp I _ n W Z o G=>?_);cases p with|true=>show F _ _ _ _ _ Q IT o G|false=>show G _ _ ES o
def aor{sX:Hs}(M:Qn N X E a t)(T:yE N X E cl (Adn (b::sX) s) (.or [NT,l,R])):yE N X E cl (Adn (a::b::sX) s) (.or [Sm,t,l,R]):=by rw[Vl];rw[V_,Y,F];rw[UD,afs C Y];show Gw (Arm λp I _ n W Z o G=>?_);cases p with|true=>show G _ _ ES o|false=>show F _ _ _ _ _ Q IT o G
end
section
variable{N:Nm}{X:Cx}{E:XK}{cl:Cl}
def tu:Ahb|.Starred .. =>false|_=>true
def aC(h:tu e=Aa):Bsb (e::R) p=(Af,Blx e)::Bsb R p:=by rw[Tr]<;>first|rfl|rw[Tf]
def kj:∀{R:Hs},Bkb=Aa->Aop Bv (Bsb R env)=Af|[],_=>rfl|e::R,h=>by rw[Vp,h];rw[aC Bk];let d:=kj (pos:=pos) (env:=env) Ck;rw[Wn,backTo,d];rw[tz,wQ,d];rfl
def sW.fV(h:uL N B H Q E (Avs))(k:∀d s,r=Jd s->∀v M L,DV->Apj->Afu L M d v->uL N L M Q E (f d s)->o v M):Bid B H o r:=by
 cases r with
 |ok d st=>showλv M L l S R=>k d st Ab v M L l S R ?_;rw[TM,uL N B H Q E (f d st)];cases A:f d st with|ok O u=>rw[Tg,A];showλJ j w I p R2=>h J j w (Bqj) p R2|err x u=>rw[Tg,A];showλc Y j w I p R2=>h c Y j w (Bqj) p R2|stuck=>rw[Tg,A];show h
 |err x st=>show h
 |stuck=>show h
theorem uL.bind(h:De Avs)(k:∀O s,r=Ew O s->∀J M L,DV->Apj->LS (Rp N L M) J->Su L M (f O s)->o J M):uL N B H o E r:=by cases r with|ok d st=>showλv M L l S R=>k d st Ab v M L l S R (Bzz h)|err x st=>show h|stuck=>show h
def uL.fV(h:uL N B H Q E (Avs))(k:∀O s,r=Ew O s->∀J M L,DV->Apj->LS (Rp N L M) J->uL N L M Q E (f O s)->o J M):uL N B H o E r:=by
 cases r with
 |ok d st=>showλv M L l S R=>k d st Ab v M L l S R ?_;rw[TM,uL N B H Q E (f d st)];cases A:f d st with|ok O u=>rw[Tg,A];showλJ j w I p R2=>h J j w (Bqj) p R2|err x u=>rw[Tg,A];showλc Y j w I p R2=>h c Y j w (Bqj) p R2|stuck=>rw[Tg,A];show h
 |err x st=>show h
 |stuck=>show h
def aos:Qo N X E [] BY:=by rw[UD,cY];rw[TM,uL N B H Q E (Cnp)];show h [] H B ES S BY
def aot(P:tu e=Aa)(Y:Bc e c)(F:Qo N X E R b):Qo N X E (e::R) [NT,c,b]:=by rw[Wy,T,O,q];obtain⟨f,l,a⟩:=F;rw[UD,bL O l (aC P)];rw[TM,uL N B H Q E ([Ms,M_ c,MZ b A,C,Ce (x::C)])];show Ajk D A (sW.fV h λx s _ v n W Z o g G=>?_);show a D n W A s _ IT o (uL.fV G λC u _ J j w I p L z=>?_);show z (v::J) j w ES p [Agx,Avk,L]
def xX:Es->Aw|.nil=>0|.cons _ R=>Ry+1
def pv:∀{R:Es}{A:Core.sM}{st S:sd}{O:FD},MZ R A=Ew O S->LF=Ry
|.nil,A,st,S,O,h=>by rw[TM,Aam ([]:FD)=Ew O S];rw[XY];subst G;rfl
|.cons e R,A,st,S,O,h=>by
 rw[TM,(Ms Anl [MZ,R,A] C [Ce,x::C])=Ew O S];cases G:Anl with
 |ok d s=>rw[Tg,G];rw[TM,([Ado,uy cl R A s,C,d::C])=Ew O S];cases z:uy cl R A s with|ok C u=>rw[Tg,z];rw[TM,SG (d::C) u=Ew O S];injection h with F D;rw[<-F,sT,pv z];rfl|err x u=>rw[Tg,z];rw[Tf]|stuck=>rw[Tg,z];rw[Tf]
 |err x s=>rw[Tg,G];rw[Tf]
 |stuck=>rw[Tg,G];rw[Tf]
def h_:∀{O:FD}{J:Ba},LS (Rp N B H) J->Bgu t4=Aa->Adb O|_,_,.nil,_=>rfl|d::O,v::J,.cons r R,h=>by rw[Vp,h];show[Gd,v,J,r.pure Bk,h_ R Ck]
def aou(U:xX b<=BI)(h:Qo N X E R b):Bc (Anb R x s) (BH b):=by rw[Ut,t,p,q];rw[UD,agk p];rw[US,Ru b A C [MH,QG,KG]];show Ajk D A (Bbu λC O W J n F Z o g G=>?_);rw[Xo,Y,G];let I:=h_ g Y;rw[Th,Cuz KN Bvs yi,Aba f [Alv,G,o,f,M,L,[Gd,p,J,FJ ac M,Ckj L]]]
def aov(U:xX b<=BI)(h:Qo N X E R b):Bc (.List R s) (PY b):=by rw[Ut,t,p,q];rw[UD,k7 p];rw[US,Ru b A C [MH,QG,Fo]];show Ajk D A (Bbu λC O W J n F Z o g G=>?_);rw[Xo,Y,G];let I:=h_ g Y;rw[Th,Cuz KN Bvs yi,Aba f [Alv,G,o,f,M,L,OT p J ac M [Ckj,L]]]
def ia{st:sd}(S:A_)(h:H p=Ad):Md (B++[Aat]) (Pd o):=by
 rw[Ts,Fb su,λi a D e=>by rwa[xK D]at e,EA a u _ G z,λi a C Y I G z=>⟨I,?_,?_,Ab⟩]
 ·rw[UF,w,a,p,e,by rw[e,h]at G;cases G]
  rw[Th,Baw (ai w),FC A];rcases Ard A with A|A;·show z A
  ·show w (GF (PC A))
 ·rw[xK (Dj G).1];show G
 ·rw[Ceg (by rw[e,h]at z;cases z)];show z
theorem RS.cell{st:sd}(S:A_)(h:H p=Ad)(L:RC N (B++[Aat]) (Pd o) (Aat) c):SI (B++[Aat]) (Pd o) (st++OG):=by
 let M:=ia (o:=o) S h;rw[Ts,Cmk su su S.len,EA i O u G z,EA i j a G z,S.hO M [HK,a,l,by rw[Adp (λD=>by rw[D,h]at e;rw[Tr])];show e]]
 ·rw[Td,I,i<RJ];·rw[xK I]at z;rw[T_,xK (by rw[S.len];show I)];show(Ahr O u G z).mono M.fz [AV,a,e];rw[Uo];show ai [E_,by rw[Tc,q,J,Ccf z];rw[e,h]at J;cases J]
  ·let F:=(Dj z).1;rw[su,s0]at F;rw[Vr,i=RJ]
   rw[Cdp,zm]at z;rw[<-S.len,Cdp,zm]at G;cases G;cases z;show L
 ·let C:Eu ((B++[Aat])[k]?=IX->(k<RJ/\Aah=IX)\/(k=RJ/\a=p)):=by
   intro k Z;rw[Td,U,k<RJ];·rw[xK U]at Z;show FJ U Z
   ·let F:=(Dj Z).1;rw[su,s0]at F;rw[Vr,k=RJ]
    rw[Cdp,zm]at Z;cases Z;show Bhg Ab
  rw[WN,C i G,_,Q,rfl,rfl]<;>rw[WN,C j z,_,R,rfl,e];·show S.inj i j a Q R
  ·rw[Uo];rw[Tc,o,A,Ccf Q];rw[h]at A;cases A
  ·rw[Tc,o,A,Ccf R];rw[h]at A;cases A
  ·rfl
def adt{st:sd}(S:A_):Afu (B++[Aat]) M (Bsg) Abf:=by rw[Ts,Cac su S.len (sdh _),p,Ab,AV b e];rw[S.len,Cdp,zm]at e;rw[Tr];rfl
def aow(U:xX b<=BI)(h:Qo N X E R b):Bc (.List R s) (.new b):=by rw[Ut,t,p,q];rw[UD,k7 p];rw[US,Ru b A C [Il,QG,(st++[Fo]),Bsg]];show Ajk D A (Bbu λC L W J n F Z o g G=>?_);rw[Xo,Y,G];let I:=h_ g Y;rw[Th,Cuz KN Bvs yi,AV p f];show G _ _ _ (ia o f) (o.cell f [Gd,p,J,ac,Ckj (ia o f)]) (adt o)
def aox:Bc (.Dict [] [] s) .sbM:=by rw[Ua,ahn,λD H B A st Q r S h p f=>?_];rw[US,Dr Bsg (st++[Pw []])];show h _ _ _ (ia S f) (S.cell f [AO,p,Ab,ac,Kg (by cases Y)]) (adt S)
end
section
variable{N:Nm}{X:Cx}{E:XK}{cl:Cl}{B:Bs}{H:Hp}{st:sd}{Q:VK}
def adu:∀{T:Bkf FG},Bcg i=Ea->DX i d T
|[],e=>Bzp
|(k,w)::T,e=>by
 rw[TV,tX];rw[Td,c,i=k];·subst c;rw[TV,sfM];rw[Tr];show Bax
 ·rw[TV,Arl c];show Oo (adu e)
def sj3:R2:=λx y H Q=>∃a v,x=Be/\yj H a y Abe/\Ov v
def aoy(F:Bbq+1<Aag):wO X sj3:=by intro o l S s D H x y v u Q I m R h P;rw[Vx,a,z,g,q];rw[Uk];show tail_any (ahk I g) sj4.lookup (ahf F I g R λG A p M=>Lv z p M q) P
def sii(K:PySem.W.Frag):R2:=λx y H Q=>si_ K x y H Q\/sj3 x y H Q
def aoz(F:Bbq+1<Aag):wO X (sii Ar):=agH.or (aoy F)
def aoA(r:Ajz)(h:vr C i=Ea):∃v,zJ J i=Fj/\RZ:=by
 rw[Tu,vr];rw[Tn];·rw[TF,A];rw[Te,v,G,z,r.get h];show Aho v z;let:=rh G;rwa[sfI A]at this
 ·rw[Tf]
def aoB(S:A_)(m:FT)(R:Hb)(h:De [Rs,x,y]):sii AS v u H Q:=by
 cases y with
 |int i=>
  rw[Ue];let l:De [Dfn,st,x,LA (Bcg i),LA (Ati [Anv,x] λC=>vr C i)]->sii AS v OU H Q:=by
   rw[UH];cases b:xC st x with
   |some T=>rw[Tg,b];rw[Te,d,e,h,Csz];rw[Tj,a,rfl,G,z,pr S m b];obtain⟨j,f⟩:∃j,d=EC:=z _ (adu e);subst f;rw[TN,Ath a EC Ab Ady];let:yj H a (kV (Alc i)) _:=AK [DP,_,Alc i,G,Ab];rw[VW,kh,e];rw[TQ]
   |none=>
    rw[Tg,b];rw[Te,d,e,h,Csz];rw[Te,C,W,A,Csy];rw[Vn,a,J,G,z,adc S m W];rw[Te,w,F,D,aoA z A];rcases G with G|G;·rw[TB,(Bw (AK ⟨a,J,i,w,Ab,Ab,G,F,Agf h D⟩))]
    ·rw[TB,(AK ⟨a,J,i,w,Ab,Ab,G,F,Agf h D⟩)]
  cases x with
  |str s=>
   rw[Xu,P];rw[US,[Aub,0<=i,LA (Qz s[JT]? c Ahu)]];rw[Td,I,0<=i]
   ·rw[Vq,I];rw[Te,d,e,h,Csz];rw[VA,c,A,e];rw[TB,(Bw (Bw ⟨KE,i,c,Ab,Ab,Cb anQ [Li,P,pi],?_,Agf h [Q_,by change 1<=Alq;decide]⟩))];let W:(KE).cps.toList=s:=CO strOf
    rw[W];let:=rh A;rwa[sfI I]at this
   ·rw[UY,I];rw[TJ]
  |_=>show l h
 |_=>cases x<;>rw[TJ]
def aoC(m:Ar=AS)(F:Bbq+1<Aag)(P:sdd b)(M:GE)(T:Bc b l):Bc (Agl a b s) (.idx t l):=by rw[Vl];rw[V_,Y,J];rw[UD,ri (aoz F) C Y P];rw[US,Ms Btc Btx y [Rs,x,y]];show Ajk D A (QY λx U _ v n W Z o g G=>?_);show J D n W A U _ IT o (Arz λy c _ u j w I p R z=>?_);rw[m];show aoB p (Avk) R z
def pz(lo:IJ)(A:IJ)(r:Aqx BR 0=min l BR)(p:HT.tW BR BR A=min h BR):saR J lo A=(J.take h).drop l:=by
 unfold saR;rw[r,p];show Cak i;rw[sbg,sd0,sd0,sbg];rw[Td,c,l<=BR]
 ·rw[sfq c];rw[Td,d,h<=BR]
  ·rw[sfq d];rw[Um,i<h-l];·rw[Av e,Nj]
   ·rw[AF e,My]
  ·rw[Des Ac];rw[Um,i<BR-l];·rw[Av e,Nj]
   ·rw[AF e];split;·rw[Cci]
    ·rfl
 ·rw[Des (AE:BR<=l),zj [Ij,BR<=BR+i],zj [Ij,BR<=l+i]];split<;>split<;>rfl
def sfN(K:PySem.W.Frag):V->IJ->Rn IJ:=λx lo h H Q=>siV K x lo h H Q\/si0 K x lo h H Q
def pA:zI X (sfN Ar):=eM.or agK
theorem sQ.cut(r:Ajz):Acw (Core.t3 C l h) ((J.take h).drop l):=(r.take h).drop l
def pB{lo:IJ}(S:A_)(m:FT)(P:∀J:Ba,(∃C,Anv x=Jr/\BC=BR)->Aqx BR 0=min l BR/\HT.tW BR BR I=min h BR)(G:De (seP st x l h)):sfN AS v lo I H Q:=by
 let L:∀{C:FD},Bgy x=Jr->De [Me,(t3 C l h)]->sfN AS v lo I H Q:=by
  intro C k G;rw[Vn,a,J,z,F,eE S m k];let R:Anv x=Jr:=by cases x with|lst O=>show k|cell i=>show k|_=>cases k
  rw[Tc,W,A,P J [Am,C,R,Axo]];rw[TN,Gd a J (.of z) JQ];rw[pz lo I W A];show Alv G S Y M q [OT,p,_,ac,M,Aws (sQ.cut F) q]
 let g:De [Com,Bgy x,Me (t3 C l h)]->sfN AS v lo I H Q:=by intro G;cases k:Bgy x with|none=>rw[T_,k];rw[Vc]|some C=>rw[T_,k];show L k G
 cases x with
 |tup C=>
  let G:De [MH,!((l==0||QO C)&&Bn BC h),HJ (t3 C l h)]:=G;rw[Xo,D,G];rw[Vn,a,J,z,F,eF m];rw[Tc,W,A,P J [Am,C,Ab,Axo]];let U:=F.length;rw[TB,⟨a,J,Ab,z,?_,JQ⟩]
  ·rw[W,A];rintro⟨T,Z⟩;rw[xT,Bool.and_eq_false_iff,sfE]at D;rcases D with⟨D,u⟩|D
   ·let:CV l:=by simpa using D
    let:0<BC:=by cases C with|nil=>cases u|cons a r=>show Dfa
    omega
   ·let:¬BC<=h:=shP D;omega
  ·rw[pz lo I W A];show Alv G S Y M q [HH,p,FJ ac M,Aws (sQ.cut F) q]
 |uh C=>
  let G:De [Me,(JX (t3 C l h))]:=G;obtain⟨a,o,rfl,z,_⟩:=m;rw[Tc,W,A,P (Bbx) [Btb,Hy sr sr]];rw[TN,Gd a Bbx [AK,(Kq o z)] JQ];rw[pz lo I W A];show Alv G S Y M q ⟨p,_,Ab,ac,M,?_⟩;let e:(List.take h (C.map V.int)).drop l=Bp (t3 C l h) V.int:=by unfold t3;rw[<-sa8,<-sch]
  rw[e];show sQ.ints
 |_=>show g G
end
section
variable{N:Nm}{X:Cx}{E:XK}{cl:Cl}
def km(h:0<=i):HT.tW n d (Ju)=min JT n:=by grind[HT.agv]
def ko{st:sd}{dl:Core.D}(h:De (ux st x dl b)):∃l g,dl=AZ l/\b=AZ g/\0<=l/\0<=g/\De (seP st x [Ga,l] [Ga,g]):=by
 cases dl with
 |int l=>
  cases b with
  |int g=>
   rw[TM,Bxf [Cv,0<=l/\0<=g,seP ..,AJ]];rw[Td,c,0<=l/\0<=g];·grind
   ·rw[UY,c];rw[TJ]
  |_=>rw[TJ]
 |_=>cases b<;>rw[TJ]
def aoD{lo:Expr}(m:Ar=AS)(M:GE)(U:Bc lo el)(f:Bc hi (Jx j)):Bc (Agl a (.Slice (Ae lo) (Ae hi) Ad p2) s) (.sl t el (Jx j)):=by
 rw[Vl];rw[VD,tl,c,ql];rw[WI,th,k,T];rw[UD,lg pA C (iA c) (iA k)];show Gw (QY λx l0 _ v n B1 Z o r1 G=>?_);show ql _ _ _ _ _ _ IT o (Arz λdl C0 _ u H2 B2 I p r2 z=>?_);obtain⟨l,rfl⟩:∃l,dl=AZ l:=by let z:Su _ _ (Kx Asp):=z;cases g:Auo _ j with|none=>rw[g]at z;rw[WY]|some d=>rw[g]at z;rw[Tj,l,_,e,_,ko (show sW .. from z)];grind
 cases r2;rw[Vu,l,T _ _ _ _ _ _ (Aht (Ccg I)) p (z.bind λb D0 _ w R y i S3 O F=>?_)];rw[Vd,Y,h',e1,rfl,W,P,F,ko F];cases e1;cases O;show Azd _;rw[m];show pB S3 (r1.mono (Bsq i)) (λJ _=>[Aj,km W,km P]) F
def aoE(m:Ar=AS)(M:GE)(f:Bc I p):Bc (Agl a (.Slice Ad (Bha) Ad l) s) (.zQ t p):=by rw[Vl];rw[WI,c,k,T];rw[UD,lg pA C re (iA k)];show Gw (QY λx u _ v n U Z o g G=>?_);show T _ _ _ _ _ _ IT o (Arz λb z _ w R y i e O F=>?_);rw[Vd,Y,j,W,rfl,d,P,F,ko F];cases W;cases O;show Azd _;rw[m];show pB e (g.mono i) (λJ _=>Aj Ch (km P)) F
def aoF{lo:Expr}(m:Ar=AS)(M:GE)(U:Bc lo e):Bc (Agl a (.Slice (Ae lo) Ad Ad i) s) (.zR t e):=by rw[Vl];rw[VD,d,c,R];rw[UD,lg pA C (iA c) re];show Gw (QY λx y _ v n b Z o g G=>?_);show R _ _ _ _ _ _ IT o (Arz λdl l0 _ u j w I p P z=>?_);cases k:tP _ x with|none=>rw[k]at z;rw[WY]|some xs=>rw[k]at z;rw[Vd,l,f,rfl,Y,W,T,F,ko Ac];cases P;show Azd l;rw[m];show pB p (Avk) (λJ O=>FY (km W)) F;grind[HT.agu]
end
section
variable{N:Nm}{X:Cx}{E:XK}{cl:Cl}{B:Bs}{H:Hp}{st:sd}{Q:VK}
def adv(S:A_)(r:Pa)(h:wx st c d=Bha):∃a Y J,v=Be/\AM=Pr IN Y (SX J)/\KN=Ayg/\Adb I:=by
 cases d with
 |obj O A=>
  let g:Cv (O=c) CU Ad=CU:=h;rw[Tz,g];·obtain⟨a,Y,J,rfl,G,z,F,D⟩:=r;grind
  ·grind
 |cell i=>
  rw[TM,Cob st[i]? [Bo,O=c,CU,Ad]=CU];rw[Wi,C,b,w];rw[Tq,l,i<Iv]
  rw[Tg,Ass];let q:=Ahr _ _ (Ass) (Dz C);cases L:st[i]with
  |obj O A=>
   rw[L]at h q;let g:Cv (O=c) CU Ad=CU:=h;rw[Tz,g];·rw[TF,e];rw[Uo];rw[Ul,GF g];obtain⟨a,Y,J,e,G,z,F⟩:=q;rw[Ul,w a Ag];show BF a _ _ Ab G z F
   ·cases g
  |_=>rw[Tg,L];rw[Tf]
 |_=>rw[Tf]
def pE:Day Ba (GW l->Bfs=Ajv->Bwf=Fj->JK (Aaj J) f=Fj)|[],J,i,f,v,_,h,_=>Aq|g::l,[],i,f,v,_,_,h=>Aq|g::l,u::J,0,f,v,k,G,z=>Csa|g::l,u::J,i+1,f,v,k,G,z=>by rw[yS]at k;rw[UF,w,f,g,e,k.1 Ag];rw[sfO,tX,Arl w];show pE k.2 G z
def adw:Day Ba (GW l->Bfs=Ajv->Ah=BR->Acd (Aaj J)=Aaj (J.set i v))|[],J,i,f,v,_,h,_=>Aq|g::l,[],i,f,v,_,_,h=>Aq|g::l,u::J,0,f,v,k,G,z=>by simp at G;subst G;change Oy (g=g)=_;rw[JO];rfl|g::l,u::J,i+1,f,v,k,G,z=>by rw[yS]at k;rw[UF,w,g,f,e,k.1 Ag];change([Bsa,g=f,_,(g,u)::Acd (Aaj _)])=_;rw[AF w,adw k.2 G Ag];rfl
def pF(c:Nat):GW Agw:=by unfold xl;split<;>rw[XH]
structure scB(N:Nm)(K:PySem.W.Frag):Al where
 cls:∀c,c<7->v_ K IN
 no:∀c f,c<7->f∈Auv->xw K IN f
def pG{i:Nat}(h:(Agw)[i]?=Ajv):c<7:=by
 rw[Td,L,c<7];·grind
 ·let:Auv=[]:=Cfz xl
  grind
def aoG(m:Ar=AS)(C:scB N AS)(R:(Agw)[i]?=Ajv)(T:Afz a f (Du a)=Du a)(M:GE):Bc (Hn a f s) (HQ t c i):=by rw[Wh,l,U];rw[Vk,agf U T,u,Q];show Gw (QY λx k _ v n b Z o g G=>?_);obtain⟨d,e,G⟩:=G.opt;rw[Te,j,W,O,Csy];rw[Vd,p,Y,J,rfl,z,F,D,adv o g W];rw[Te,w,P,I,D.get O];let L:=pG R;rw[m];show⟨p,_,_,_,w,Ab,z,C.cls c L,C.no c f L Ag,pE (pF c) R P,Arr G I⟩
def eG{i:Nat}(M:Anj=IX)(Z:∀C Y I,AM=Abs->∃s,o=Aaa Y s/\Ckk=Avm):Md B (HG o):=[AO,Ach,λ_ _ _ e=>e,λb u _ G z=>Aj Bbb z,λj b C Y I G z=>by grind[ac,ai]]
theorem RS.upd(S:A_)(M:Anj=IX)(Z:∀C Y I,AM=Abs->∃s,o=Aaa Y s/\Ckk=Avm)(L:RC N B (Cem a o) (Gj) c):SI B (Cem a o) (st.set i c):=by
 rw[Ts,by rw[wv];show S.len,EA j O u G z,S.inj,S.hO (eG M Z) [Rx,P,Cmw (λD=>S.o8 M P Ag)]];rw[Um,i=j];·grind
 ·rw[T_,Cej];show(S.at_ j _ u G z).mono (eG M Z).fz [AV,b,l];subst l;show ai λd=>by subst d;show e (S.inj i j b M z)
end
def wh(N:Nm)(r:Core.uF)(f v:Nat)(T:Ayn):Sp:=λJ H Q E=>BR=v/\∃(g:Ez)(O:FD)(B:Bs)(st:sd),LS (Rp Br B H) J/\Bnd/\(Brr d (O[Ax]?=Ea/\Ty N B H BE d))/\sW Br B H Q E (r f O st)
def sfP:Es->Bhs Cda|.nil,_=>none|.cons e _,0=>Ae e|.cons _ R,j+1=>sfP R j
section
variable{N:Nm}{X:Cx}{E:XK}{cl:Cl}
def pH:∀{R:Es}{A:Core.sM}{st S:sd}{O:FD}{j i:Nat},MZ R A=Ew O S->sfP R j=As Ael->O[j]?=Aiy A
|.nil,A,st,S,O,j,i,h,e=>Bzp
|.cons e R,A,st,S,O,j,i,h,Y=>by
 let h:(Bdb)=.ok ..:=h;cases G:Aus with
 |ok d s=>
  rw[Tg,G];let h:(Kx (uy ..))=.ok ..:=h;cases z:uy .. with
  |ok C u=>
   rw[Tg,z];injection h with F D;subst F;cases j with
   |zero=>cases Y;let G:Asp=Jd _:=G;cases g:Anu with|none=>rw[T_,g];cases G|some y=>rw[T_,g];cases G;rfl
   |succ j=>show pH (j:=j) z Y
  |err x u=>rw[Tg,z];rw[Tf]
  |stuck=>rw[Tg,z];rw[Tf]
 |err x s=>rw[Tg,G];rw[Tf]
 |stuck=>rw[Tg,G];rw[Tf]
def xY(A T:Ayn)(R:Es):Bh:=T.all λp=>[Czz,sfP R Ax,A.contains (i,BE)]
def adx{st:sd}(h:xY CP T R=Aa)(r:Akf)(e:MZ R A=Ew O S):Brr d (O[Ax]?=Ea/\Ty N B H BE d):=by
 rw[U'];rw[xY,tZ]at h;let h:=h p Y;rw[Tn];·rw[Te,d,G,z,r.ty _ (Amo h)];grind[pH]
 ·grind
def aoH(F:sR By BD Ar Fp DH a k Ig u l (wh N cl f v d))(w:HZ k)(J:Ii)(L:ID=Ex Ig)(Z:Amb Ar Ig=Aa)(T:Bdq u l)(O:Beu a)(j:Gu=Af)(U:xX b=v)(m:Afh=v)(I:xY CP d b=Aa)(P:Bkb=Aa)(M:Qo N X E R b):Bc (Jp R s) [Bgx,f,b]:=by
 rw[Wh,t,C];let bf:∀D H B A st Q,Akf->A_->De [M_,Bgx f b]->t D H [Jl,n,wh N cl f v d (i++[]) n Q E]:=by intro D H B A st Q r S h;show Gw (Bbu λds l0 W i n z y o g G=>?_);rw[ud];show⟨by rw[<-sbG g,Bvs,U],_,_,_,_,g,o,adx I (Aht y) W,G⟩
 cases R with
 |nil=>rw[UD,agm F w J L Z T BY O j];cases b with|nil=>show⟨U,_,_,B,_,BY,S,JQ,h⟩;rw[xY,tZ]at I;let:=I p Y;rw[Ve]|cons c b=>rw[<-m]at U;rw[T',U,(sfQ _)]
 |cons e R=>rw[Vp,P];rw[Ua,agl F w J L Z T BY O C j (Bdv) (Bdw),bf]
def aoI:∀{I:Apf},m∉Avm->Bkg m=Ad|[],_=>rfl|(f,v)::I,h=>Aq
def aoJ(E0:c<Cc)(C:v_ Ar IN)(M:saN Ar IN m Ig)(I0:m∉Auv)(F:sR By BD Ar Fp DH CX k Ig fd ps (wh N cl f (np+1) C0))(w:HZ k)(hb:Bgs)(hx:Atb)(U:xX b=np)(G0:Afh=np)(hi:DX i c CP)(I:xY CP C0 [Agx,Ael,b]=Aa)(P:Bkb=Aa)(O:Bht Azi)(ha:Qo N X E R b)(Y:Du (Hk (Hn (Azi) m ap) R s)=(do let ov<-eval (.Name y u) X.env;standAt ap.atName;let(f,D0)<-holding [ov] (getMethod ov m pl);callWith s f D0 (backTo s (starEach R X.env)) (backToKw s (keywordEach [] X.env)))):Bc (Hk (Hn (Azi) m ap) R s) (.zS f (Ael) b):=by
 let bf:∀(t':TA),(∀D H B A st Q,Akf->A_->uL N B H Q E (MZ b A)->t' D H Q)->∀D H B A st Q,Akf->A_->De [M_,(.zS f (Ael) b)]->sgv IN m (wh N cl f (np+1) C0) [] E (Bfd) t' D H Q:=by
  intro t' q D H B A st Q r S h;rw[US,[Ms,LA (Aiy A),MZ b A,xs,(cl:Cls) f (x::xs) st]];rw[Te,d,g,T,r.ty (i,c) hi];rw[Tg,g];rw[US,Ru b A xs ((cl:Cls) f (d::xs) st)];rw[Te,v,q1,q2,Bdo d g];rw[TZ,a,dx,fs,rfl,z,h3,T.is E0 q2];show⟨Be,q1,a,dx,fs,Ab,z,aoI Ag,Ajk D A (Bbu λds H0 e1 J n W Z o r1 G=>?_)⟩;rw[ud];show⟨by grind[List.length_cons,Paired.length,pv],EB,d::ds,W,H0,Jo (q2.mono Z) r1,o,AV p hp,G⟩;rw[TC,xY,I];rw[tZ]at I;let h:=I p hp;rw[Tn];·rw[UE,i',l];rw[Te,d',h4,L,(IT).ty (i',BE) (Amo h)];show Aho d' L;cases l0:Ax with|zero=>rw[l0]at l;cases l;grind|succ j=>rw[l0]at l;rw[sfc,pH e1 l];grind
  ·grind
 cases R with
 |nil=>rw[Ua,ago (pl:=pl) (dvs:=[]) (ds:=[]) O C M F w hb BY hx Y,bf saO [Bil,D,B,A,Q,r,S,h]];cases b with|nil=>show h [] H B ES S BY|cons c b=>rw[<-G0]at U;rw[T',U,(sfQ _)]
 |cons e R=>rw[Vp,P];rw[XI,t,pa,q];rw[Ua,agn (pl:=pl) (dvs:=[]) (ds:=[]) O C M F w hb BY hx pa (Bdv) (Bdw) Y,bf t q]
def zw:Aw->Ba->Ba|5,W=>W++[Pm]|6,_=>[Bt]|_,W=>W
def slB:Aw->Aw|0=>4|1=>3|2=>4|3=>3|4=>3|5=>1|_=>0
def sd9(N:Nm)(c:Nat):Sp:=λJ H Q _=>∃x Y W,J=OX::W/\OM=NL/\H x=Pr IN Y []/\Q Bt (Ei x (Blk Y (SX (zw c W))))
def aoK{st:sd}(S:A_)(O:H x=Ad)(j:H Y=Ad)(w:Y≠x):Md B (sU (Ei Y o) x t)/\Aum N (sU (Ei Y o) x t):=by
 let e:sU H Y o x=Ad:=by simp_all[ai,uc]
 rw[Th,DT (cf S j) (cf (S.new j) e),(S.new j).new e]
def aoL(L:c<5)(M:Mk Ar IN Y)(F:sR By BD Ar Fp DH a k Y u l (sd9 N c))(w:HZ (k+1))(J:Ii)(hm:ID=Ex IN)(T:Bdq u l)(O:Beu a)(j:Gu=Af)(U:xX b=NL)(P:Gv (e::R) tu=Aa)(ha:Qo N X E (e::R) b):Bc (Jp (e::R) s) (.mk c b):=by
 rw[XI,t,C,qa];rw[Vp,P];rw[UD,qT M F w J hm T BY O C j (Bdv) (Bdw)];show qa _ H B _ _ _ r S (Bbu λds l0 W v n B1 Z o g G=>?_);rw[Xo,J,G];rw[si]at J;let I:=h_ g J.1;let m:AG v=NL:=by rw[<-KN,Bvs,U]
 let d:zw c v=v:=by match c,L with|0,_=>rfl|1,_=>rfl|2,_=>rfl|3,_=>rfl|4,_=>rfl
 let i:Ayg=NL:=by match c,L with|0,_=>rfl|1,_=>rfl|2,_=>rfl|3,_=>rfl|4,_=>rfl
 intro y dy z f ne;rw[ud];show⟨y,_,_,Ab,m,ac,Ab,?_⟩;rw[kL,d];rw[Tc,q,S2,aoK o z f ne];show G _ _ _ q S2 ⟨y,_,v,Ab,ac,o.cy z,?_,Ckj q⟩;rw[KN,m,i]
end
section
variable(N:Nm)(X:Cx)(E:XK)(cl:Cl)(m:Nat)(τ':List (Nat×Nat))
def vS(B:Bs)(H:Hp)(D:sbz)(E:XK):Bsl Core.yq|.ok (.next U) S=>∀a M L,DV->Aka->RE N τ' L M a U->D.nx a M|.ok (.ret d) S=>∀v M L,DV->Aka->Afu L M d v->D.rt v M|.err x S=>∀c Y M L,DV->Aka->XR N L M x Y->E c NI M|.stuck=>False
def sea(l:Stmt)(s:Core.S):Al:=∃t:TS,ML l t/\∀C H B A st D,SR N C->A_->Q' (Core.ex cl m s A st)->t D C H
def yF(l:Acz)(s:Ss):Al:=∃t:TS,vm X l t/\∀C H B A st D,SR N C->A_->Q' (Nu s A)->t D C H
end
section
variable{N:Nm}{X:Cx}{E:XK}{cl:Cl}{m:Nat}{τ':List (Nat×Nat)}
theorem vS.mono(q:DV)(h:Q' r):Avc τ' L M D r:=by
 cases r with
 |ok i st=>cases i with|next A=>showλC j w l S R=>h _ _ _ (Bjm) S R|ret d=>showλv j w l S R=>h v _ _ (Bjm) S R
 |err x st=>showλc Y j w l S R=>h c _ _ _ (Bjm) S R
 |stuck=>show h
def vS.aM(h:Q' (Avs))(k:∀d s,r=Jd s->∀v M L,DV->Apj->Afu L M d v->Avc τ' L M D (f d s)->o v M):Bid B H o r:=by cases r with|ok d st=>showλv M L l S R=>k d _ Ab v _ _ l S R (Bqw l)|err x st=>show h|stuck=>show h
def vS.ki(h:Q' (Bra x [Kp,Lx,f]))(k:∀b s,r=Se Mz->∀M L,DV->Apj->Avc τ' L M D (f b s)->o b M):vR N B H o E r:=by
 cases r with
 |ok d st=>cases d with|bl b=>showλM L l S=>k b _ Ab _ _ l S (Bqw l)|_=>rw[TJ]
 |err x st=>show h
 |stuck=>show h
def aoM:yF N X E cl m CP [] BY:=by rw[Vk,ir,C,D];show h _ H B ES S r
def aoN(G:MI N X E m q p s)(z:yF N X E [Aj,cl,q] m τ' l I):yF N X E cl m τ' (p::l) [NT,s,I]:=by
 obtain⟨t,T,y⟩:=G;obtain⟨u,M,j⟩:=z;rw[Vk,iu T M,L,D];rw[WL,(Kx (Core.ex ..))];show y _ H B _ _ _ r S ?_;cases w:Core.ex .. with
 |ok i J=>rw[Tg,w];cases i with|next g=>showλC n W Z o F=>j _ _ _ _ _ D F o (Bqw Z)|ret d=>show h
 |err x J=>rw[Tg,w];show h
 |stuck=>rw[Tg,w];rw[TJ]
def aoO(P:Cez a Ad Amz=Nn)(M:GE):MI N X E m CP (.Expr a s) (.expr t):=by rw[Vl];rw[Vk,iv C P,I,D];show Gw (h.aM λd F _ v n W Z o g G=>G _ _ _ ES o IT)
def aoP(M:GE):MI N X E m τ' (Ceb (Gj) s) (NV t):=by rw[Vl];rw[Vk,afy C,I,D];show Gw (h.aM λd F _ v n W Z o g G=>G v _ _ ES o g)
def pI(c:X.N.Nodup)(F:Mj=Bi)(O:Ahw x)(P:Aab a [NW,l] Amz=Nn)(R:Ow=Aa\/NM=Fy)(I:Bzx (λp=>Ax !=i)=Aa)(M:GE):MI N X E m CP (Adc [NW l] a s) (.set i t):=by rw[Vl];rw[Vk,kS c F O C P R,Q,D];show Gw (h.aM λd J _ v n W Z o g G=>?_);show G _ _ _ ES o ((IT).set g JQ);grind
def aoQ(L:Qn N X E c f)(M:yF N X E cl m τ' a F)(T:yF N X E cl m τ' b U):MI N X E m τ' (.If c a b s) (.ite f F U):=by rw[WH,k,P,d];rw[Wh,t,C];rw[V_,Y,Q];rw[Vk,afz P C Y,J,D];show d _ H B _ _ _ r S (h.ki λp I _ n W Z o G=>?_);cases p with|true=>show q _ _ _ _ _ D IT o G|false=>show Q _ _ _ _ _ D IT o G
def aoR(c:X.N.Nodup)(F:Mj=Bi)(O:Ahw x)(R:Ow=Aa\/NM=Fy)(I:Bzx (λp=>Ax !=i)=Aa)(M:GE):MI N X E m CP (.AugAssign (NW l) .Add a s) (.aug i t):=by
 rw[Vl];rw[Vk,afC c F O C afD R,T,D];rw[WL,Cpg Anu Bdb AJ];cases g:Anu with
 |none=>rw[Tg,g];rw[TJ]
 |some d=>
  rw[Tg,g];rw[Te,v,U,Q,Bdo d g];cases d with
  |int z=>cases Q;rw[Ua,U,Gw (vS.aM h λd P _ v n W Z o J G=>?_)];cases d with|int b=>cases J;show Gd z b Ab (G _ _ _ ES o ((IT).set Ab JQ));grind|_=>rw[Vc]
  |_=>rw[TJ]
def slC(i:Nat):TE:=λD H Q=>∃a u,D[i]?=Ln a/\AM=BW/\saG (BW)/\∀o,Q Gk (HG (.ao o u))
def aoS(h:DF e (Bfd)):DF e (λD H Q=>sgf i D H Q\/slC i D H Q):=by
 rw[Xe,D,Q,g];rcases g with g|⟨a,u,B,z,F,C⟩;·show h _ s _ H Q I g
 ·show Jf (h _ s _ H (λv M=>v=Be/\M=H) I [Blw,B]) λv J⟨x,_,A,R,U⟩=>?_;obtain⟨rfl,rfl⟩:=U;rw[Tc,o,G,A.lock z F];rw[TU,_,_,G,R,C o]
def pJ(M:Aah=IX)(Z:∀C Y I,AM≠Abs):Md (Brs k) H:=by rw[Ts,Aq,BV i b h e,λb o _ G z=>Aj G [FC,A],λi b C Y I G z=>⟨_,?_,z,Ab⟩];all_goals grind
def RS.ao{st:sd}(S:A_)(M:Aah=IX)(Z:∀C Y I,AM≠Abs):SI (Brs k) H (st.set k Adx):=by
 let q:=pJ M Z;let U:=(Dj M).1;rw[Ts,by rw[wv,wv];show S.len,EA i c o G z,EA i j b G z,S.hO q [HK,_,_,e]]
 ·rw[Um,k=i];·rw[Uo];rw[yN U]at z;rw[T_,Cwo];cases G;cases z;rfl
  ·rw[Cej]at G z;show(Ahr c o G z).mono q.fz Kv
 ·let f:∀i,(Brs k)[i]?=Apq b->Anj=CU:=Jl e (by
   rw[Td,c,k=i];·subst c;rw[TV,yN U];grind
   ·rwa[zC c]at e)
  show S.inj i j b (f i G) (f j z)
def ady(M:Aah=IX)(Z:∀C Y I,AM≠Abs):Md (Brs k) (HG (.ao o u)):=DT (eG M λC Y I e=>(Z C _ _ e).elim) (pJ M λC Y I e=>by grind[ac])
theorem RS.hold{st:sd}(S:A_)(M:Aah=IX)(Z:∀C Y I,AM≠Abs):SI (Brs k) (Cem a (.ao o u)) (st.set k Adx):=by
 let s:=S.ao M Z;rw[Ts,s.len,EA j c w G z,s.inj,S.hO (ady M Z) [Rx,P,Cmw (λD=>S.o8 M P Ag)]];rw[Um,k=j];·rw[Uo];rw[Cwo]at z;rw[T_,Cwo];cases G;cases z;rfl
 ·rw[Cej]at G z;show((S.at_ j c w G z).mono (eG M λC Y I e=>(Z C _ _ e).elim).fz [AV,b,l]).mono Ag Kv;subst l;show ai λd=>by subst d;show e (S.inj k j b M z)
def aoT(p:Bht Ayc):Bc (Ayc) (.ao i):=by
 rw[UD,aoS p];rw[TM,Bxf [Apo,Anu,(match Ami with|some (.lst P)=>Ew _ _|some (.dict T)=>Ew _ _|_=>AJ),AJ]];cases g:Anu with
 |none=>rw[Tg,g];rw[TJ]
 |some d=>
  rw[Tg,g];rw[Te,v,U,R,Bdo d g];cases d with
  |cell k=>
   obtain⟨F,b,rfl,w⟩:=R;let l:k<Iv:=Ckr
   rw[Vb,h];rw[Tg,Ass];let q:=S.at_ k _ _ (Ass) (Dz F);rw[TW,u,∀a,Aah=CU->Ckt (Brs k),a,e,by
    rw[Th,FC M,λM=>(Bez a M).2 (tV e)];rw[Tc,j,f,sas M];rw[Td,c,k=j];·grind
    ·rw[zC c]at f;show c (S.inj k j a e f)]
   cases L:st[k]with
   |lst P=>
    rw[L]at h q;rw[XJ,a,e,G,z];rw[UX,t,Aah,IX,Dz F,e]
    rw[Ul,w a t];let n:∀C Y I,AM≠Abs:=λC Y I e=>by rw[TV,G];rw[Tr]
    let O:=pJ t n;rw[TB,HV U (h _ H _ O (S.ao t n) [OT,a,_,G,u a t,z.mono O.fz])]
   |dict T=>
    rw[L]at h q;rw[XD,a,e,z];rw[UX,t,Aah,IX,Dz F,e]
    rw[Ul,w a t];let n:∀C Y I,AM≠Abs:=λC Y I e=>by rw[TV,G];rw[Tr]
    rw[TN,Ds a _ U G vH [FC,o]];show h _ _ _ (ady t n) (S.hold t n) [OT,a,o,ac,u a t,z]
   |obj c I=>rw[Tg,L];rw[TJ]
   |dead=>rw[Tg,L];rw[TJ]
  |_=>rw[TJ]
end
section
variable{N:Nm}{X:Cx}{E:XK}{cl:Cl}{m:Nat}{τ':List (Nat×Nat)}
def pK{J:Ba}(h:Ayg=BR):Bp [SX,J] Aci=Auv:=List.map_fst_zip Ac
def adz{st:sd}(R:(Agw)[i]?=Ajv)(S:A_)(r:FT)(o:Aqt N d w)(h:wY st x c i d=Ae Q):∃(k:Nat)(a Y:Addr)(J:Ba),v=Be/\Aah=IX/\AM=Pr IN Y (SX J)/\Ayg=BR/\Md B (HG (Blk Y (yP f w (SX J))))/\SI B (HG (Blk Y (yP f w (SX J)))) Q:=by
 cases x with
 |cell k=>
  rw[TM,Cob st[k]? [Bo,O=c/\i<KN,CU,Ad]=CU];rw[Wi,M,b,P];rw[Tq,l,k<Iv]
  rw[Tg,Ass];let q:=S.at_ k _ _ (Ass) (Dz M);cases L:st[k]with
  |obj O D=>
   rw[L]at h q;let g:Cv (O=c/\i<Cjf) CU Ad=CU:=h;rw[Tz,g]
   ·rw[TF,e];obtain⟨W,T⟩:=e;subst W;rw[Ul,GF g];obtain⟨a,Y,J,e,G,z,F⟩:=q;rw[Tq,t,Aah=IX]
    rw[Ul,P a t];let U:An (xl O)=BR:=by rw[<-z,Axo]
    let Z:∀C u I,AM=Pr C u I->∃s,HO.ins _ _ ((xl O).zip (J.set i w))=Aaa u s/\s.map _=I.map _:=λC u I e=>by rw[TV,G];rw[Tr];rw[Vh,[Hy,pK (by rw[wv];show U),pK U]]
    let A:=eG t Z;show⟨k,a,_,_,Ab,t,G,U,?_⟩;rw[(adw (v:=w) (pF _) R U)];rw[Th,A,S.upd t Z [BF,a,_,_,Ab,ac,by rw[wv];show z,Aws (F.set i o) A]]
   ·cases g
  |_=>rw[Tg,L];rw[Tf]
 |_=>rw[Tf]
def aoU(hK:Ar=AS)(C:scB N AS)(R:(Agw)[i]?=Ajv)(P:Aab a [Hn,o,f,l] Amz=Nn)(ho:Bc o O)(M:GE):MI N X E m CP (Adc [Hn o f l] a s) (.saU O c i t):=by
 obtain⟨y,po,qo⟩:=ho;rw[Xy,ta,pa];rw[Vk,qR po pa P,σ,D];rw[TM,Aqp CP H (Boe Btc v [M_,O] x [DZ,Ajs=Aa,(match wY st x c i v with|some st=>Cef A|none=>AJ),AJ])];show qa σ H B A st _ r S (h.aM λd l0 _ w n W Z S1 g G=>?_);show qo σ n W A l0 _ IT S1 (G.aM λx u _ v j B2 I p r2 z=>?_);rw[Td,Y,Abi=Aa];·rw[Ux,Y,z];cases T:wY u x c i d with|none=>rw[T]at z;rw[WY]|some Q=>rw[T]at z;obtain⟨k,b,dx,J,rfl,eB,F,U,q,e⟩:=adz R p r2 ((Avk).pure Y) T;let L:=pG R;rw[hK];show⟨b,_,dx,_,Ab,F,C.cls c L,C.no c f L (tV R),?_,z σ _ B2 q e ((Aht (Ccg I)).mono q)⟩;grind[xl,List.length_zip]
 ·rw[Uz,Y,z];rw[WY]
def aoV(hK:Ar=AS)(C:scB N AS)(R:(Agw)[i]?=Ajv)(ho:Bc o O)(M:GE):MI N X E m CP (.AugAssign (Hn o f G0) .Add a s) (.sdm O c i t):=by
 obtain⟨to,po,qo⟩:=ho;rw[Xy,ta,pa];rw[Vk,agg po pa agh,σ,D];show qo _ H B _ _ _ r S (h.aM λx D0 _ v n B1 Z S1 g G=>?_);cases e:Akq _ c x _ with
 |none=>rw[T_,e];rw[Vc]
 |some d=>
  rw[T_,e];cases d with
  |int z=>
   rw[Te,fs,W,e2,Csy];rw[Vd,p,Y,J,rfl,h2,F,h4,adv S1 g W];rw[Te,w,h5,h6,h4.get e2];cases h6;let L:=pG R;rw[hK];show⟨p,_,_,_,_,Ab,h2,C.cls c L,C.no c f L Ag,pE (pF c) R h5,?_⟩;show qa _ _ _ _ _ _ IT S1 (vS.aM G λd E0 _ w j B2 I S2 P T=>?_);cases d with
   |int y=>
    cases P;rw[Vb,T];cases l0:wY .. with
    |none=>rw[l0]at T;show T.elim
    |some Q=>
     rw[l0]at T;obtain⟨k,b,u,C0,l,eB,h8,U,q,S3⟩:=adz (d:=Ahf) R S2 (Avk) Ab l0;cases l;show⟨z,y,Ab,Ab,_,_,h8,?_,T _ _ _ q S3 ((Aht (Ccg I)).mono q)⟩;let:An [SX,C0]<=Ayg:=Fb sj5
     let T:Ayg<=4:=by unfold xl;split<;>decide
     omega
   |_=>show T.elim
  |_=>rw[Vc]
def kw{st:sd}(S:A_)(r:Afy (FX k) v)(h:st[k]?=FH C):∃a J,v=Be/\Aah=IX/\AM=FH J/\Ajz:=by rw[Wi,A,b,w];rw[Tk,a,J,e,G,z,S.at_ k _ _ h (Dz A)];grind
theorem RS.lst{st:sd}(S:A_)(t:Aah=IX)(h:AM=FH J)(r:Acw O W):Md B (Cem a (CW W))/\SI B (Cem a (CW W)) (st.set k (CW O)):=by
 let Z:∀C Y I,AM=Abs->∃s,HO.lst W=Aaa Y s/\Ckk=Avm:=λC Y I e=>Aq
 let q:=eG t Z;rw[Th,q,S.upd t Z [HH,a,ac,Aht q.fz]]
def adA{st:sd}(h:uT st k=Aa):∃C,st[k]?=FH C:=by grind[uT]
def aoW(hK:Ar=AS)(O:Bht Awv)(P:Cez (Hk (Hn Ajq Cjk I) Hi u) Ad Amz=Nn)(f:tu a=Aa)(l:Afz Ajq Cjk (Du Ajq)=Du Ajq)(y:(Gv (Avh u (Lb Hi)) (λx=>! Ee)&&Gv (Bsc u (Bxw Di)) (λx=>OC Ee)&&Bl (AG Hi+AG ([]:Aqg)+(Iz [QO,([]:Aqg)] 0 1)) 30)=Aa)(c:(Bky I==Fu u)=Aa)(M:GE):MI N X E m CP (.Expr (Hk (Hn Ajq Cjk I) Hi u) s) (.app i t):=by
 rw[Xy,ta,C];rw[Vk,iv (rq sj6 PySem.F.slot_list_append PySem.F.type_list_append agT O (bL C cY (aC f)) l y c (aC f) Ab) P,σ,D];rw[WL,Apo Anu [Ajb,uT _ a=Aa,Bdb] AJ];cases g:Anu with
 |none=>rw[Tg,g];rw[TJ]
 |some d=>
  rw[Tg,g];rw[Te,v,q1,R,Bdo d g];cases d with
  |cell k=>
   rw[Vb,h];rw[Td,U,uT st k=Aa]
   ·rw[Vq,U];rw[Tc,xs,ex,adA U];rw[TZ,b,J,rfl,eB,G,z,kw S R ex];rw[Ts,_,q1,AK [Am,Ab,_,Buf],qa _ H B _ _ _ r S (vS.aM h λd l0 _ w H1 W Z o r1 F=>?_)];cases n:l0[k]? with
    |none=>rw[n]at F;rw[Wa]
    |some cc=>
     rw[n]at F;cases cc with
     |lst ys=>
      rw[Vb,F];rw[Td,Y,(Abi&&Bl Bzk Alq)=Aa];·rw[Ux,Y,F];rw[si,uw]at Y;rw[TZ,b',us,e,j,T,L,kw o (R.mono Z) n];rw[Tr];rw[Tc,q,p,o.lst j T (L.append (show sQ N _ _ [d] _ from HH w (r1.pure Y.1) Ab))];show⟨b,_,w,Ab,Ab,T,?_,F _ _ _ q p ((IT).mono q)⟩;rw[<-AG L];show MD Y.2 pi
      ·rw[Uz,Y,F];rw[Wa]
     |_=>rw[Wa]
   ·rw[UY,U];rw[TJ]
  |_=>rw[TJ]
end
section
variable{N:Nm}{X:Cx}{E:XK}{cl:Cl}{m:Nat}{τ':List (Nat×Nat)}
def aoX(hK:Ar=AS)(O:Bht Awv)(P:Cez (Hk (Hn Ajq Cjl ap) Hi u) Ad Amz=Nn)(f:tu a=Aa)(l:Afz Ajq Cjl (Du Ajq)=Du Ajq)(y:(Gv (Avh u (Lb Hi)) (λx=>! Ee)&&Gv (Bsc u (Bxw Di)) (λx=>OC Ee)&&Bl (AG Hi+AG ([]:Aqg)+(Iz [QO,([]:Aqg)] 0 1)) 30)=Aa)(l0:(ap.endLine==Fu u)=Aa)(M:GE):MI N X E m CP (.Expr (Hk (Hn Ajq Cjl ap) Hi u) s) (.ext i t):=by
 rw[Xy,ta,C];rw[Vk,iv (rq sj6 PySem.F.slot_list_extend PySem.F.type_list_extend agU O (bL C cY (aC f)) l y l0 (aC f) Ab) P,σ,D];rw[WL,Apo Anu [Ajb,uT _ a=Aa,Bdb] AJ];cases g:Anu with
 |none=>rw[Tg,g];rw[TJ]
 |some d=>
  rw[Tg,g];rw[Te,v,q1,R,Bdo d g];cases d with
  |cell k=>
   rw[Vb,h];rw[Td,U,uT st k=Aa]
   ·rw[Vq,U];rw[Tc,xs,ex,adA U];rw[TZ,b,J,rfl,eB,G,z,kw S R ex];rw[Ts,_,q1,AK [Am,Ab,_,Buf],qa _ H B _ _ _ r S (vS.aM h λd C0 _ w H1 W l1 o r1 F=>?_)];cases n:C0[k]? with
    |none=>rw[n]at F;rw[Wa]
    |some cc=>
     rw[n]at F;cases cc with
     |lst ys=>
      cases d with
      |lst zs=>
       rw[Vb,F];rw[Td,Y,sY Bzk zs.length=Aa];·rw[Ux,Y,F];rw[TZ,b',us,e,j,h4,L,kw o (R.mono l1) n];rw[Tr];obtain⟨c,ws,rfl,I,T,Z⟩:=r1;rw[Tc,q,p,o.lst j h4 (L.append Z)];show⟨b,c,_,_,Ab,Ab,h4,I,?_,F _ _ _ q p ((Aht l1).mono q)⟩;rw[<-AG L,<-AG Z];show kc Y
       ·rw[Uz,Y,F];rw[Wa]
      |_=>rw[Wa]
     |_=>rw[Wa]
   ·rw[UY,U];rw[TJ]
  |_=>rw[TJ]
def aoY{st:sd}(S:A_)(r:Afy (FX k) v)(h:st[k]?=Arj T):∃a,v=Be/\Aah=IX/\AM=As (.dK (Bjz))/\Brr i (BE=CI):=by rw[Wi,A,b,w];rw[Tj,a,e,G,z,S.at_ k _ _ h (Dz A)];grind
def aoZ(hu:Bbq+1<Aag)(O:Bht Awv)(hy:Ef Azi (sgf j))(P:[Aab,a,Agl Ajq (Azi) l,Fu D0]=Nn)(C0:∀A st d H0,M_ l0=Jd H0->∃z,d=Aeq)(M:Bc a l0):MI N X E m CP (Adc [Agl Ajq (Azi) l] a D0) (.put i (Jx j) l0):=by
 rw[Xy,L,pa];rw[Vk,ahl hu O hy pa P,σ,D];rw[WL,(Jg (Core.ev _ _ _ _) v [Kx,tG _ _])];show qa _ H B _ _ _ r S (h.aM λd I0 e1 w H1 W l1 o r1 G=>?_);rw[VR,z,C0 _ _ d _ e1];cases r1;cases J:Auo _ j with
 |none=>rw[T_,J];rw[Vc]
 |some kd=>
  rw[T_,J];dsimp only[tG,sA.bind]at G;rw[Te,vj,E0,G0,(Aht l1).at_ j _ J];cases g:Anu with
  |none=>rw[T_,g];rw[Vc]
  |some d=>
   rw[T_,g];rw[Te,v,U,R,(Aht l1).at_ i d g];cases d with
   |cell c=>
    cases kd with
    |int k=>
     cases G0;rw[Vb,G];cases n:I0[c]? with
     |none=>rw[T_,n];rw[Vc]
     |some cc=>
      rw[T_,n];cases cc with
      |dict T=>
       rw[Vb,G];rw[Td,Y,(Bvj (Bcg k)&&(GL Aeq&&Bl Mi BI))=Aa]
       ·rw[Ux,Y,G];rw[si,si,uw]at Y;rw[Tk,b,rfl,t,h2,F,aoY o R n];let f:vJ (Bjz) (Bnz)=Ad:=by rw[kh];cases Z:Bcg k<;>grind
        let ep:v6 (Bjz) (Bnz) (Bnt z)=Bp (T++[(k,Core.D.int z)]) scA:=by unfold v6;rw[lK,f,xI];rfl
        let Z:∀C dx I,H1 b=Pr C dx I->∃s,HO.dK (Bp (T++[(k,Core.D.int z)]) scA)=Aaa dx s/\Ckk=Avm:=λC dx I e=>by rw[TV,h2];rw[Tr]
        let q:=eG t Z;let S2:=o.upd t Z (c:=Pw _) [AO,b,Ab,ac,Kg (by
         rcases Ard Y with Y|Y;·show F p Y
         ·rw[PC Y];rw[TY,z])];show⟨Nv,U,AZ k,E0,b,_,Ab,AK ⟨_,Bnz,h2,Ab,?_,Ab⟩,?_⟩;·rw[sr,yi];omega
        ·rw[ep];show G σ _ W q S2 ((Aht l1).mono q)
       ·rw[Uz,Y,G];rw[Vc]
      |_=>rw[Vc]
    |_=>rw[Vc]
   |_=>rw[Vc]
end
section
variable{N:Nm}{X:Cx}{E:XK}{cl:Cl}{m:Nat}{τ':List (Nat×Nat)}{B:Bs}{H:Hp}{st:sd}
theorem vS.loop{g:Brv->sd->sA Core.yq}(h:Q' (r.bind [Jl,st,Bxn (g A st) Ccn]))(w:D'.rt=D.rt)(k:∀a M L U s,DV->Apj->RE N τ' L M a U->Avc τ' L M D (g U s)->D'.nx a M):Avc τ' B H D' r:=by
 cases r with
 |ok i st=>cases i with|next A=>showλC n W l S R=>k _ _ _ _ _ l S R (Bqw l)|ret d=>intro v n W l S R;rw[w];show h v _ _ l S R
 |err x st=>show h
 |stuck=>show h
def ao_(Y:Bph GT Di Agg)(L:Qn N X E c J)(T:yF N X E cl m CP b U):MI N X E m CP (.While c b [] s) (.wW J U):=by rw[WH,tc,pc,qc];rw[V_,pb,qb];rw[XU,afE Y pc pb,σ,A,D,hE];rw[TM,Aqp CP H (y8 (KA A [Ph,M_ J,Lx]) (KA A [Nu,U,A]) m A st)];generalize hn:m=n at h;rw[<-hn]at h;show[HS,λk σ H=>∃B A st,A_/\SR N σ/\Aqp CP H (y8 (KA A [Ph,M_ J,Lx]) (KA A [Nu,U,A]) k A st),BF m B A st S hE h];rintro k C P⟨W,g,l0,o,F,G⟩;cases k with|zero=>rw[Vc]|succ k=>let G:Avc CP W P D (Jg [Ph,Core.ev cl J g l0,Lx] p [DZ,p=Aa,Jg [Nu,U,g] i (Bxn (y8 (KA A [Ph,M_ J,Lx]) (KA A [Nu,U,A]) k A st) Ccn),Cef g]):=G;rw[T_,show∀(r:sA FG)(f:Bh->sd->sA Core.yq),Kp [Bra,x,Lx] f=Bra x [Kp,Lx,f]fromλr f=>by rw[Uj]<;>rfl];show qc C P W g l0 _ F o (G.ki λp u _ j w I Z z=>?_);cases p with|false=>show z C j w ES Z (Bup I)|true=>show[HS,λa M=>∃B A st,Aum N M/\RE N CP B M a A/\Aqp CP M (y8 _ _ k A st),λa M q=>Am k (sdh k) q];show qb C j w g u _ (Bup I) Z (vS.loop (D':={D with nx:=_,ct:=_,bk:=_}) z Ab λl R y t Q l3 e v h3=>Ds y t Q e v h3)
def sbh(H:Hp):Al:=∀a,(∀C,Qv (Fo)->Cu BC)/\(∀C,Qv (KG)->Cu BC)/\∀T,Qv (SY)->Bgf
def ao0{D:L2.St}(I:Eo):sbh H:=λa=>[Am,λC r=>(r.ok HC).1,λC r=>(r.ok HC).1,λT r=>(r.ok HC).1]
def sfR(g:TG):TG:=λv D H Q=>sbh H->g v D H Q
def adB(h:PG X w g):PG X w (sfR g):=λS s D H v u Q I r k=>h S s D H v u Q I r (k (ao0 I))
def scC(N:Nm)(C:Bool)(B:Bs)(H:Hp)(p:FG×FG)(v:V):Al:=match C with|false=>Afy Ax v|true=>∃a u w,v=Be/\NS AS [u,w]/\Afy Ax u/\Afy BE w
def sat(N:Nm)(C:Bool)(J:It)(s:sN)(B:Bs)(H:Hp):Al:=∀g k L M S,([Bea,a∈EB,AM=Ad])->DV->RS Br L M S->match Aga S with|.ok none _=>J.stop k M|.ok (some p) _=>J.go k M/\∀v j,J.sc4 k M v j->Le L M L j/\RS Br L j S/\scC Br C L j p v/\(sbh j->k<MM)|_=>True
def xm(N:Nm)(C:Bool)(B:Bs)(H:Hp)(R:LC It)(E:XK):Bsl sN|.ok s S=>(s.turn S 0=AJ->Agm)/\∀J M L,DV->Aka->sat N C J s L M->R J M|.err x S=>∀c Y M L,DV->Aka->XR N L M x Y->E c NI M|.stuck=>False
def xo(N:Nm)(X:Cx)(E:XK)(cl:Cl)(C:Bool)(w O:Expr)(M:Core.It):Al:=∃t:TI,PI X w O t/\∀D H B A st R,Akf->A_->xm N C B H R E (Bzs M A)->t D H R
def ky{s:sN}(h:Adr=Ew o S):S=st:=by
 cases s with
 |fix C=>rw[YC];grind
 |seq d=>rw[TM,Asp=_];cases f:Bp (tP _ d) _ with|none=>rw[Tg,f];rw[Tf]|some y=>rw[Tg,f];rw[YC];grind
 |enum d=>rw[TM,Asp=_];cases f:Bp (tP _ d) _ with|none=>rw[Tg,f];rw[Tf]|some y=>rw[Tg,f];rw[YC];grind
def xZ(N:Nm)(X:Cx)(F:Ayn)(C:Bool)(w:Expr)(l:Ak)(f:FG->FG->Brv->Brv)(g:TG):Al:=PG X w g/\∀B H D A p v Q,RE N F B H D A->scC N C B H p v->(∀a,RE N F B H a (f Ax BE A)->tY a l=tY D l->Ov a)->g v D H Q
def fW(D:L2.St)(k:Nat):∀J:Ak,(tY D J)[k]?=[CH,k∈J,D[k]?.map (Cmj),D[k]?]
|[]=>Ch
|v::J=>by
 unfold tY;rw[Um,v=k];·rw[Uo];rw[Av RO,List.getElem?_set,gf];grind
 ·rw[Cej,fW ..];grind
def pM(h:i∈J):tY (D.set i x) J=tY D J:=by
 show Cak k;rw[fW,fW];rw[Um,i=k]
 ·rw[Uo];rw[NA,NA,List.getElem?_set,JO];split;·rw[TF,h];rw[Dz h];rfl
  ·rw[TF,h];rw[zj (sie h)]
 ·rw[Cej]
def ao1(c:X.N.Nodup)(C:Mj=Bi)(O:Ahw x)(R:Ow=Aa\/NM=Fy)(I:F.all (λp=>Ax !=i)=Aa):xZ N X F Af (Ayc) [i] (λx _ A=>Bcf) (yO i):=by rw[Th,kR c C O R,λB H D A p v Q h r k=>k _ (h.set r JQ) (pM RO)];grind
def ao2(J:Ar=AS)(L:Ji=Aa)(c:X.N.Nodup)(S:Mj=Bi)(O:Ahw x)(R:Ow=Aa\/NM=Fy)(I:C.all (λp=>Ax !=i)=Aa)(l:X.N[j]?=Nc)(e:Ahw y)(g:X.fn y=Aa\/Afs y=Fy)(M:C.all (λp=>Ax !=j)=Aa):xZ N X C Aa (Anb [NW b,Azh P] U s) [i,j] (λx y A=>Aoh) (seu Ar 2 (sc3 (yO i) (sc3 (yO j) sgl))):=by rw[Th,afB L (qG (kR c S O R) (qG (kR c l e g) afA)),λB H D A p v Q h r k=>?_];obtain⟨a,u,w,rfl,G,z,F⟩:=r;rw[J];rw[tZ]at I M;show⟨a,[u,w],Ab,G,Ab,u,[w],Ab,w,[],Ab,Ab,k _ ((h.set z [Kg,Byp (I p Y)]).set F [Kg,Byp (M p Y)]) (DT (pM (Oo RO)) (pM RO))⟩
def adC(h:Q' (uG f s n k A st)):(Adr=Jy Ad/\Q' (Cef A))\/∃j p,n=j+1/\Adr=Ce Aat/\Q' (Jg (f Ax BE A st) i [Bxn,uG f s j (k+1) A st,Ccn]):=by
 cases n with
 |zero=>
  rw[WL,(Kx [Aga,_])];cases I:Aga _ with
  |ok o S=>rw[Ul,ky I];rw[Tg,I];cases o with|none=>show Aze h|some p=>rw[TJ]
  |err x S=>cases s<;>first|cases I|(simp[sN.turn,tG]at I;grind)
  |stuck=>rw[Tg,I];rw[TJ]
 |succ n=>
  rw[WL,(Kx [Aga,_])];cases I:Aga _ with
  |ok o S=>rw[Ul,ky I];rw[Tg,I];cases o with|none=>show Aze h|some p=>rw[TN,Gd n p Ab h]
  |err x S=>cases s<;>first|cases I|(simp[sN.turn,tG]at I;grind)
  |stuck=>rw[Tg,I];rw[TJ]
def vS.pN(h:Q' (Avs))(F:∀s A,Q' (f s A)->s.turn A 0=AJ->Agm)(k:∀s A J M L,DV->Cga A->sat N C J s L M->Avc τ' L M D (f s A)->R J M):xm N C B H R E r:=by cases r with|ok d st=>rw[Th,F d st h,λJ M L l S W=>k d st J M L l S W (Bqw l)]|err x st=>show h|stuck=>show h
def adD(Y:Bph GT Di Agg)(hc:Ji=Aa)(P:∀x,Atm O=Afl)(hi:xo N X E cl C tg O M)(hg:xZ N X CP C tg l f g)(T:yF N X E cl m CP b U):∃t:TS,ML (.For tg O b [] Bv) t/\∀σ H B A st D,SR N σ->A_->Aqp CP H ([Jg,Bzs M A,s,uG (λx y A st=>Nu U (f x y A)) s (Bnj) 0 A st])->t D σ H:=by
 obtain⟨ti,u,qi⟩:=hi;obtain⟨tb,pb,qb⟩:=T;rw[Vk,afL Y hc u hg.1 pb P,σ,D];show qi _ H B _ _ _ r S (h.pN (BV s l0 G e) λs l0 J H1 B1 Z o W1 G=>?_);·rw[Xw,adC G,e',_,_,_,_,e',_]<;>rw[e]at e'<;>cases e'
 show[HS,λk n σ H=>∃B A st,A_/\RE N _ B H σ A/\Le _ _ B H/\Aqp _ H (uG _ s n k A st),DB _ _ _ _ o Dge ES G];rintro k n c H2⟨B2,I,C0,S2,R2,W,z⟩;let w:=W1 _ k _ _ _ Ag W S2;rw[Xw,adC z,e,F,j,p,rfl,e,F];·rw[e]at w;show FJ w (F _ _ _ ES S2 R2)
 ·rw[e]at w;rw[TN,[AO,w.1,_,λE0 H' q=>Am j Ac q,Bz v H3 y]];rw[Tj,i,S3,i3,_,w.2 v _ y];show hg.2 _ _ _ _ p v _ (R2.mono i) i3 [Bz,G0,Q,_];show qb _ _ _ _ _ _ Q S3 (vS.loop (Bup i) Ab λH0 H5 B5 a D0 d S5 R L=>BF _ _ _ S5 R [DT,W.trans i,d] L)
def ao3(Y:Bph GT Di Agg)(L:Ji=Aa)(P:∀x,Atm O=Afl)(h:xo N X E cl Af w O M)(J:xZ N X CP Af w l (λx _ A=>Bcf) g)(T:yF N X E cl m CP b U):MI N X E m CP (.For w O b [] s) (.xB i M U):=by rw[Te,t,p,q,adD (m:=m) (pos:=s) Y L P h J T];rw[Tp,t,p,q]
def ao4(Y:Bph GT Di Agg)(L:Ji=Aa)(P:∀x,Atm O=Afl)(h:xo N X E cl Aa w O M)(J:xZ N X CP Aa w l (λx y A=>Aoh) g)(T:yF N X E cl m CP b U):MI N X E m CP (.For w O b [] s) (.ww i j M U):=by rw[Te,t,p,q,adD Y L P h J T];rw[Tp,t,p,q]
end
def EF:XK:=Kh _ Agm
structure BP where
 s:Baq
 H:Hp
 C:Fx
 l:IG
 fp:Ez
abbrev scD(X:Cx)(B:Scope)(y:BP):Cx:=Mw y.s y.H (Acn B y.l y.C) y.fp
def sij(N:Nm)(B:Bs)(H:Hp)(Q:Bmi):Bsl Bh|.ok b S=>∀M L,DV->Aka->Q b M|_=>False
def x_(A:Core.sM):Ak->Brv|[]=>A|v::J=>Ip (x_ A J) v Ad
section
variable{N:Nm}{X:Cx}{E:XK}{cl:Cl}{m:Nat}{τ':List (Nat×Nat)}{B:Bs}{H:Hp}{st:sd}{scope:Scope}
def pO(A:Core.sM)(k:Nat):∀J:Ak,Auo (x_ A J) k=[Bo,k∈J,Ad,Auo A k]
|[]=>Ch
|v::J=>by
 unfold x_;rw[Um,v=k];·grind[Core.uj]
 ·rw[pf e,pO ..];grind
def adE(A:Core.sM)(J:Ak):An (x_ A J)=Aas:=by induction J with|nil=>rfl|cons w l d=>unfold x_;rw[wv,d]
theorem RE.wipe(h:RE N C B H D A)(I:∀p∈C,Ax∉J):RE N C B H (L2.tY D J) (x_ A J):=by
 rw[Ts,by rw[gf,adE];show h.len,Dfw adE,GX i d,JQ]
 ·rw[TV,pO];rw[Tz,e];·grind
  ·rw[Te,v,G,z,h.at_ i d e];rw[We,fW]
 ·rw[Te,d,G,z,h.ty p Y];rw[Tp,d,DR pO,z]
def adF(h:∀y g,wH Br (Agu X y) EF cl O e):∃t:TE,(∀y,PE (Agu X y) O t)/\∀g D H B A st Q,SR Br D->Bnd->sW Br B H Q EF (Anl)->t D H Q:=[Am,λD H Q=>∃g,∀y,Crl (h y g) D Q,λy P s D H Q I⟨g,k⟩=>(scE (h y g)).1 P s D H Q I (k y),λg D H B A st Q r S k=>Aj g (λy=>(scE (h y g)).2 D H B A st Q r S k)]
def ao5(h:∀y g,Qn Br (Agu X y) EF O e):∃t:TT,(∀y,zN (Agu X y) [O] t)/\∀g D H B A st Q,SR Br D->Bnd->sij Br B H Q (Ph Anl Lx)->t D H Q:=[Am,λD H Q=>∃g,∀y,Crl (h y g) _ Q,λy P s D H Q I⟨g,k⟩=>ag8 Ag _ s _ H Q I (k y),λg D H B A st Q r S k=>Aj g (λy=>(scE (h y g)).2 _ H B _ _ Q r S (by
 cases w:Aus with
 |ok d C=>rw[w]at k;cases d with|bl b=>show k|_=>show k.elim
 |err x C=>rw[w]at k;show k.elim
 |stuck=>rw[w]at k;show k.elim))]
def ao6:∃t:TT,(∀y,zN (Agu X y) [] t)/\∀g D H B(A:Core.sM)st Q,SR Br D->Bnd->sij Br B H Q (Jy Aa)->t D H Q:=[Am,sjb,λy=>ag7,λg D H B A st Q r S k=>k H B ES S]
def adG(h:De [Azt,tH c f i j A s n k st,C,(ds++C)]):(Adr=Jy Ad/\De [Me,ds])\/∃l p,n=l+1/\Adr=Ce Aat/\De [Azt,[Bjq,c (Atr (MS (Aie))) st,KA b [DZ,b=Aa,[Bjq,f (Atr (MS (Aie))) st,KA v (Ajb (Ajs=Aa) [Ado,tH c f i j A s l (k+1) st,J,v::J])],tH c f i j A s l (k+1) st]],C,(ds++C)]:=by
 cases n with
 |zero=>
  rw[US,Azt [Jg,Adr,o,Cyd Cnp] C (ds++C)];cases I:Adr with
  |ok o S=>rw[Ul,ky I];rw[Tg,I];cases o with|none=>rw[US,JI [Dq,ds++[]] S];rw[Tg,ud];show Aze h|some p=>rw[TJ]
  |err x S=>cases s<;>first|cases I|(rw[Vz,sN.turn,tG,I];rw[Tz,I]<;>cases I)
  |stuck=>rw[Tg,I];rw[TJ]
 |succ n=>
  rw[US,Azt [Jg,Adr,o,Cyc Cnp [Bjq,c (Aoh) st,KA b [Bem,b=Aa,[Bjq,f (Aoh) st,KA v (Ajb (Ajs=Aa) [Ado,tH c f i j A s n (k+1) st,J,v::J])],(tH c f i j A s n (k+1) st)]]] C (ds++C)];cases I:Adr with
  |ok o S=>rw[Ul,ky I];rw[Tg,I];cases o with|none=>rw[US,JI [Dq,ds++[]] S];rw[Tg,ud];show Aze h|some p=>rw[TN,Gd n p Ab h]
  |err x S=>cases s<;>first|cases I|(rw[Vz,sN.turn,tG,I];rw[Tz,I]<;>cases I)
  |stuck=>rw[Tg,I];rw[TJ]
def sW.pN(h:De Avs)(D:∀s A,De (f s A)->s.turn A 0=AJ->Agm)(k:∀s A J M L,DV->Cga A->sat N C J s L M->Su L M (f s A)->R J M):xm N C B H R E r:=by cases r with|ok d st=>rw[Th,D d st h,λJ M L l S W=>k d st J M L l S W (Bzz h)]|err x st=>show h|stuck=>show h
def adH{tg iter:Expr}{f:FG->FG->Brv->Brv}(hi:∀σ H B A st R,SR N σ->A_->xm N M1 B H R E (Bzs it A)->ti σ H R)(hg:∀g,∀B H σ A p v Q,SR Br σ->scC Br M1 B H p v->(∀E0,RE Br CP B H E0 (f Ax BE A)->tY E0 ws=tY σ ws->Ov E0)->gg v σ H Q)(ht:∀g σ H B A st Q,SR Br σ->Bnd->sij Br B H Q (c A st)->tt σ H Q)(he:∀g σ H B A st Q,SR Br σ->Bnd->sW Br B H Q EF (M_ r)->te σ H Q)(Z0:Bzo (Ax∉vs))(hf:∀x y A,Aas<99->f x y (x_ A vs)=Aoh)(hw:∀σ E0,tY E0 ws=tY σ ws->tY E0 vs=tY σ vs):∀σ H B A st Q,SR N σ->A_->De [Boe,Bzs it A,s,tH c (Bhn) i j A s (Bnj) 0 st,xs,Me xs]->sdi ti (sfR gg) tt te vs σ H Q:=by
 intro σ H B A st Q hE S h;show hi σ H B A st _ hE S (h.pN (BV s U0 G e) λs U0 J H1 W l1 S1 W1 G=>?_);·rw[Xw,adG (ds:=[]) G,e',_,_,_,_,e',_]<;>rw[e]at e'<;>cases e'
 intro D hD;let hN:=S1.cy hD;rw[TW,J0,∀a∈D::EB,a∈EB\/H1 a=Ad,a,M,(FI M).elim (E_ [Bw,(by rw[e];show hD)]) .inl];let R1:=Ctv;show HS (λk n H2=>∃B2 C0 O l0,Le W H1 B2 H2/\RS (N.w (D::EB)) B2 H2 C0/\H2 D=FH l0/\sQ (N.w (D::EB)) B2 H2 O l0/\LF<=k/\Su W H1 (Azt (tH c (Bhn) i j A s n k C0) xs (O++xs))) ⟨_,W,U0,[],[],cf S1 hD,?_,ac,Ab,Ach,G⟩
 ·show S1.gen (EA a o hv G z) (AV a M) [Aj,AV a M,λT hT=>((S1.new hD).gh.2 T hT)]
  ·rw[UF,ne,a,D,e,by rw[e,hD]at G;cases G]
   rw[Tp,Baw (ai ne),HI,λhm=>(FI hm).elim ne Hf]
  ·show ai [E_,hN.1 (e▸M)]
  ·rw[Um,a=D];·rw[Uo];rw[Th,Btb ac,hN.1]
   ·rw[Tc,⟨o,hv,G⟩,z,S1.gh.1 a ((FI M).resolve_left e)];rw[Th,Am o hv [Baw,ai e],z]
 ·rintro k n H2⟨B2,C0,O,l0,I,S2,O0,P,Z,z⟩;let w:=W1 (D::EB) k B2 H2 C0 J0 I S2;let I0:Apa∉B2:=(S2.gh.1 D RO).2;rw[Xw,adG z,e,F,n',p,rfl,e,F]
  ·rw[e]at w;show FJ w (F _ H2 B2 I ?_ ?_);·show RS.gen (N:=N.w (D::EB)) (g:=N.gh) S2 (λa o _ G z=>Am G HI (λhm=>z.2 (Oo hm))) (Kv) [Aj,λa M=>S2.gh.1 a (Oo M),λT hT=>S2.gh.2 T hT]
   ·show[OT,D,l0,O0,Aj I0 hN.2,sQ.gen (N:=N.w (D::EB)) (g:=N.gh) (λa o _ G z=>Am G HI (λhm=>z.2 (Oo hm))) P]
  ·rw[e]at w;rw[TN,[AO,w.1,λH'=>∃B2 C0 O l0,Le W H1 B2 H'/\RS (N.w (D::EB)) B2 H' C0/\H' D=FH l0/\sQ (N.w (D::EB)) B2 H' O l0/\LF<=k+1/\Su W H1 (Azt (tH c (Bhn) i j A s n' (k+1) C0) xs (O++xs)),λH' q=>Am n' (sdh n') q,Bz v H3 y]];rw[Tj,l3,S3,i3,X0,w.2 v H3 y];intro C1;let N1:=X0 C1;show hg _ B2 H3 _ (x_ A vs) p v _ ((R1.wide (Bsq l3) J0).wipe Z0) i3 λV0 R4 Y0=>Bpl
   ·rw[hw _ _ Y0];show Cak q;rw[fW,fW];split;·cases σ[q]?<;>rfl
    ·rfl
   rw[hf _ _ _ R1.vK]at R4;generalize P1:Atr (MS (Aie))=G0 at F R4;show ht _ V0 H3 B2 G0 C0 _ R4 S3 ?_;cases L:c G0 C0 with
   |err x U=>rw[L]at F;rw[Wa]
   |stuck=>rw[L]at F;rw[Wa]
   |ok b U=>
    rw[L]at F;intro H5 B5 l5 S5;let P0:=(l5.fz D _ Ab ((l3.fz D _ Ab O0 I0).1) I0).1;let r5:=Aws (P.mono l3.fz) l5;cases b with
    |false=>show⟨B5,U,O,l0,DT [Bsq,l3] l5,S5,P0,r5,Nat.le_succ_of_le Z,F⟩
    |true=>
     let F:Su W H1 (Azt [Bjq,Core.ev cl r G0 U,KA v (Ajb (Ajs=Aa) [Ado,tH c (Bhn) i j A s n' (k+1) st,vs,v::vs])] xs (O++xs)):=F;show he _ V0 H5 B5 G0 U _ (R4.mono l5) S5 ?_;cases hv:Core.ev cl r G0 U with
     |err x D0=>rw[hv]at F;rw[Wa]
     |stuck=>rw[hv]at F;rw[Wa]
     |ok d D0=>
      rw[hv]at F;intro u H6 B6 l6 S6 r6;let F:Su W H1 (Azt [Ajb,Abi=Aa,[Ado,tH c (Bhn) i j A s n' (k+1) D0,vs,d::vs]] xs (O++xs)):=F;rw[Td,Y,Abi=Aa]
      ·rw[Ux,Y,F];let D1:Apa∉B5:=(S5.gh.1 D RO).2;let Q0:Apa∉B6:=(S6.gh.1 D RO).2;let H0:=(l6.fz D _ Ab P0 D1).1;let J1:=(r5.mono l6.fz).append (show sQ _ B6 H6 [d] [u]from Gd u [] (r6.pure Y) Ab);let ic:∀a o,Afg=Aa->H6 a=Ai->NB (N.w (D::EB)) B6 a->sU H6 D [DK,l0++[u]] a=Ai/\NB ((N.w (D::EB)).w (D::EB)) B6 a:=λa o _ G z=>Aj [Baw,Ceg (z.2 [Eb,e,Bax])] z;show⟨l0,H0,?_,B6,D0,O++[d],l0++[u],?_,?_,ac,sQ.gen (g:=D::EB) ic J1,?_,?_⟩;·rw[<-Atk];omega
       ·let l:=DT [DT,Bsq l3,l5] l6;rw[Ts,l.len,l.old,EA a o ht G z,λq a C dx fs G z=>?_]
        ·rw[UF,ne,a,D,e,by rw[e,hD]at G;cases G]
         rw[ai ne];show Anr a ht G z
        ·rw[Tj,W0,q1,q2,t,l.kd q a C dx fs G z];rw[UF,ne,a,D,e,by rw[e,hD]at z;cases z]
         rw[Ts,W0,q1,by rw[ai ne];show q2,t]
       ·show RS.gen (N:=N.w (D::EB)) (g:=D::EB) S6 ic (λa M=>ai [E_,Q0 (e▸M)]) [Aj,AV a M,AV T hT];rw[Um,a=D];·rw[Uo];rw[Th,Btb ac,Q0]
        ·rw[Tc,⟨o,hv,G⟩,z,S6.gh.1 a M];rw[Th,Am o hv [Baw,ai e],z]
        rw[Tj,ps,G,z,F,S6.gh.2 T hT];rw[Ts,ps,Baw [Ceg,by rw[e,H0]at G;cases G],z,GX F1 cv];rw[Tk,c,oc,q1,q2,t,F F1 cv e];rw[TU,c,oc,q1,Aj [Cb,Ceg (by rw[e]at q2;rw[q2.1]at H0;cases H0),q2.1] q2.2,t]
       ·rw[su,s0];omega
       ·let e2:Kp [Jg,tH c (Bhn) i j A s n' (k+1) D0,vs,Aam (d::vs)] (KA xs [Aam,(Core.D.lst (O++xs))])=Azt (tH c (Bhn) i j A s n' (k+1) D0) xs (O++[d]++xs):=by cases tH c (Bhn) i j A s n' (k+1) D0 with|ok xs st=>change Aam (Core.D.lst (O++(d::xs)))=Me (O++[d]++xs);rw[uk];rfl|err x st=>rfl|stuck=>rfl
        rw[<-e2];show F
      ·rw[Uz,Y,F];rw[Wa]
structure scF(N:Nm)(X:Cx)(E:XK)(cl:Cl)(tg iter elt:Expr)(ifs:Hs)(scope:Scope)(own:Na Aw)(e:Core.E):Al where
 t:∃(ti:TI)(gg:TG)(tt:TT)(te:TE),PI X tg iter ti/\(∀y,PG (Agu X y) tg gg)/\(∀y,zN (Agu X y) ifs tt)/\(∀y,PE (Agu X y) elt te)/\∀σ H B ρ st Q,RE N CP B H σ ρ->A_->De [Aki,cl,e,ρ]->sdi ti gg tt te (own.map (·.2)) σ H Q
def adI(h:xo N X E cl C w Z M)(J:∀y g,xZ Br (Agu X y) CP C w l f k)(Y:∀y g,wH Br (Agu X y) EF cl F r)(I:Bzo (Ax∉Chg))(R:∀x y A,Aas<99->f x y Dao=Aoh)(G:l=Chg)(y0:BP):scF N X E cl w Z F [] Axv v (.comp M i j r):=by rw[Ut,b,u,Q];rw[Te,t,O,q,adF Y];rw[Te,d,T,L,ao6 (N:=N) (X:=X) (cl:=cl) (scope:=scope)];show⟨b,sfR k,d,t,u,λy=>adB (J y []).1,T,O,adH (tg:=w) (iter:=Z) (c:=λ_ st=>Jy Aa) Q (λg=>(J y0 g).2) L q I R [HK,D,a,by rw[<-G];show e]⟩
def adJ(h:xo N X E cl C w Z M)(J:∀y g,xZ Br (Agu X y) CP C w l f k)(I:∀y g,Qn Br (Agu X y) EF c G)(Y:∀y g,wH Br (Agu X y) EF cl F r)(P:Bzo (Ax∉Chg))(R:∀x y A,Aas<99->f x y Dao=Aoh)(L:l=Chg)(y0:BP):scF N X E cl w Z F OG Axv v (.yZ M i j G r):=by rw[Ut,b,u,Q];rw[Te,t,O,q,adF Y];rw[Te,d,T,S,ao5 I];show⟨b,sfR k,d,t,u,λy=>adB (J y []).1,T,O,adH (tg:=w) (iter:=Z) (c:=KA A [Ph,M_ G,Lx]) Q (λg=>(J y0 g).2) S q P R [HK,D,a,by rw[<-L];show e]⟩
def adK(L:Ji=Aa)(c:X.N.Nodup)(t:zL X.N Sq Axv v)(P:∀x,Atm Z=Afl)(h:scF N X E cl w Z F a Axv v e):Bc (Agk [AO w Z a 0] Axv p) e:=by obtain⟨b,k,d,D,u,j,T,O,q⟩:=h.t;rw[Ua,aha L c u t (λs H C l A=>j [Lv,s,C,l,A]) (λs H C l A=>T [Lv,s,C,l,A]) (λs H C l A=>O [Lv,s,C,l,A]) P,q]
def adL(L:Ji=Aa)(c:X.N.Nodup)(Q:Mj=Nc)(R:Afs y=Fy)(f:[Aab,(Agk [AO w Z a 0] Axv z),Azh py,Fu l0]=Ek Aa)(I:Bzx (λp=>Ax !=i)=Aa)(t:zL X.N Sq Axv U)(P:∀x,Atm Z=Afl)(h:scF N X E cl w Z F a Axv U e):MI N X E m CP (Adc [Azh py] (Agk [AO w Z a 0] Axv z) l0) (.set i e):=by obtain⟨b,k,tt,te,u,j,T,O,q⟩:=h.t;rw[XU,ahb L c Q R f u t (λs H C l A=>j [Lv,s,C,l,A]) (λs H C l A=>T [Lv,s,C,l,A]) (λs H C l A=>O [Lv,s,C,l,A]) P,σ,J,D,r];rw[TM,Aqp CP H ([Ado,Aki cl e J,v,Bic (J.set i Abe)])];show Ajk σ J (h.aM λd C0 _ v n W M o g G=>?_);show G _ n W ES o ((Aht M).set g JQ);rw[tZ]at I;simpa using I p Y
end
section
variable{N:Nm}{X:Cx}{E:XK}{cl:Cl}{B:Bs}{H:Hp}{st:sd}{tg:Expr}
def ao7{K:PySem.W.Frag}(l:sbh H)(h:Pl a J):Cu BR:=by
 rcases h with h|⟨_,i,_,_,_,_,_,G,z⟩;·show(l a).1 _ h
 ·rw[LH];grind
def ao8{K:PySem.W.Frag}(l:sbh H)(h:NS K J):Cu BR:=by
 rcases h with h|⟨_,i,_,_,_,_,G,z⟩;·show(l a).2.1 _ h
 ·rw[LH];grind
def sau:BU FG|.tup _=>true|_=>false
def tU(K:PySem.W.Frag)(H:Hp)(b:Bool)(a:Addr)(J:Ba):Al:=[Cpq,NS K J,Pl a J]
def pP{K:PySem.W.Frag}(l:sbh H)(h:tU K H b a J):Cu BR:=by cases b with|true=>show ao8 l h|false=>show ao7 l h
def kA(S:A_)(r:Pa)(h:Anv d=Jr):∃a J,v=Be/\tU AS H (sau d) a J/\Ajz:=by cases d with|tup O=>rw[Tf];show eF r|uh O=>rw[Tf];rw[WE,a,o,G,z];show HH a [AK,(Kq o G)] Clt|lst O=>rw[Vn,a,J,G,z,eE S r h];show HH a [AK,(Azy)] z|cell i=>rw[Vn,a,J,G,z,eE S r h];show HH a [AK,(Azy)] z|_=>rw[Tf]
def slD(K:PySem.W.Frag)(b:Bool)(a:Addr):It:=[Cpq,sew K a,sev K a]
theorem sQ.none(r:Adb O)(h:O[k]?=Ad):BR<=k:=by rw[<-Ic];grind
def ao9(r:Afy d Gk):sat N Af (slD AS (sau d) a) (Axs) B H:=by
 intro g k L M s J l S;cases e:tP s d with
 |none=>simp[sN.turn,e];trivial
 |some C=>
  rw[Tk,c,A,t,G,z,kA S (r.wide l J) e];cases t;cases f:Aik with
  |none=>simp[sN.turn,e,sfS,f];let:=z.none f;cases T:sau d<;>rw[T_,T]<;>rw[Ua,G,this]
  |some x=>
   simp[sN.turn,e,sfS,f];rw[UT,F,D,z.get f];let bf:∀v j,j=M/\(∀O,tU AS M (sau d) a O->O[k]?=Fj)->Le L M L j/\RS Br L j s/\scC Br Af L j (x,Core.D.sD) v/\(sbh j->k<MM):=by rintro v j⟨rfl,Q⟩;let:=Cjm (Q _ G) F;rw[Ve];rw[Ts,ES,S,Ayt D,λl=>MD Ag (pP l G)]
   cases T:sau d<;>rw[T]at G bf<;>rw[Th,Ky u G F,bf]
def apa(U:Qc<=Alq):sat N Af (seJ (KE)) (Ly (s.map λc=>DA Ahu)) B H:=by
 intro g k L M A J l S;let h:Bru (KE)=Qc:=xy;rw[Vm,sN.turn];cases f:(s.map _)[k]? with
 |none=>show(by change Bru (KE)<=k;grind)
 |some p=>
  rw[tD]at f;rw[VA,c,W,f];let Z:=(Dj W).1;rw[Uf,Chj (k<Bru (KE))];rintro v j⟨rfl,O,G,rfl⟩;let G:s.toArray[k]?=CU:=G;rw[List.getElem?_toArray,W]at G;cases G;rw[Ts,ES,S,Q_ Aq,FC _];let:Alq<MM:=DC
  omega
def slE(K:PySem.W.Frag)(d:TE):TI:=λD H R=>d D H λx n=>(∃a C,x=Be/\vY K n a C/\R (sev K a) n)\/(∃a C,x=Be/\vZ K n a C/\R (sew K a) n)\/∃y,x=Cw y/\R (seJ y) n
def apb(U:DF l d):PI X tg l (slE Ar d):=by
 rw[Vg,D,R];show Jf (U _ s _ H _ I h) λv m⟨x,_,A,g,Q⟩=>?_;rcases Q with⟨a,C,rfl,Z,q⟩|⟨a,C,rfl,Z,q⟩|⟨x,rfl,q⟩;·cases g;rw[Tj,i,f,p,F,A.list Z];show sgJ Cjv (rL A _ (afF a _) Cbr q)
 ·cases g;rw[Tj,i,f,p,F,A.tuple Z];show sfT (show m.heap.IsTuple a Ahg from p) (Byd _ (afG a _) Cbr q)
 ·rw[WW,t,rfl];cases M:x.cps.all (·<128);·show wpAny_pyIter_wide M (Byd _ (rM _ x t Ddq Aot) Cbr q)
  ·show wpAny_pyIter_ascii M (Byd _ (rM _ x t Das GZ) Cbr q)
def xm.aM(h:xm N C B H R E (Avs))(k:∀d D v M L,DV->Cga D->Afu L M d v->xm N C L M R E (f d D)->o v M):Bid B H o r:=by
 cases r with
 |ok d st=>intro v M L l S r;show k d _ v _ _ l S r ?_;rw[TM,xm N _ B H R E (f d _)];cases A:f d _ with|ok s F=>rw[Tg,A];rw[Th,Bk,λJ j w I=>h.2 J _ _ (Bqj)]|err x F=>rw[Tg,A];showλc Y j w I=>h c _ _ _ (Bqj)|stuck=>rw[Tg,A];show h
 |err x st=>show h
 |stuck=>show h
def apc(m:Ar=AS)(Y:Bc O e):xo N X E cl Af tg O (MN e):=by
 rw[Wy,t,p,q];rw[Vk,apb p,M,R];show Ajk M A (h.aM λd I v n W Z o g G=>?_);let l:xm N Af W n R E (JI Axs I)->(∃a C,v=Be/\vY Ar n a C/\R (sev Ar a) n)\/(∃a C,v=Be/\vZ Ar n a C/\R (sew Ar a) n)\/∃y,v=Cw y/\R (seJ y) n:=by
  rintro⟨z,F⟩;cases k:tP I d with
  |none=>show(z (by rw[UC,sN.turn,k];rfl)).elim
  |some C=>
   rw[Vn,a,J,D,L,kA o g k];let:=F _ n W ES o (ao9 g);rw[m];cases T:sau d<;>rw[T]at D this;·rw[TB,Gd a J D this]
   ·rw[Uv,AK [Gd,a,J,D,this]]
 cases d with|str s=>rw[WW,rfl,U];rw[VX,Btb (G.2 _ n W ES o (apa U))]|_=>show l G
def apd(U:Cu Aas)(P:∀k M,Aas<=k->J.stop k M)(h:∀k M p,A[k]?=Aat->J.go k M)(Q:∀g k L M s p v j,([Bea,a∈EB,AM=Ad])->DV->RS Br L M s->A[k]?=Aat->J.sc4 k M v j->Le L M L j/\RS Br L j s/\scC Br C L j p v):sat N C J (Ly A) B H:=by intro g k L M s b l S;grind[sN.turn]
def ape(J:Gl X Acy)(I:Afo Acy=Ad)(P:tu a=Aa)(F:Bc a e):xo N X E cl Af tg (Hk (PF Acy p) Hi s) (Buo e):=by
 obtain⟨t,p,q⟩:=F;rw[Vk,afJ J I (bL p cY (aC P)) (aC P),D,R];show Gw (h.aM λd U v n W Q o O G=>?_);cases d with
 |int i=>
  cases O;let G:xm N _ _ _ R E ([Iz,(Apc&&Apc)=Aa,.ok ..,AJ]):=G;rw[Td,C,(Qk i&&Azl i)=Aa]
  ·rw[Ux,C,G];rw[si,uw,uw]at C;rw[TU,i,Ab,AE,AE,G.2 _ _ _ ES o (apd ?_ (Bz k M Z) (BV k M p Y) ?_)]
   ·rw[sr,sib];let:Cu BI:=DC
    omega
   ·change JT<=k;grind
   ·change k<JT;grind
   ·rintro g k L M T p v j _ l S Y⟨rfl,rfl⟩;let Z:=(Dj Y).1;rw[sr,sib]at Z;rw[tD,List.getElem?_range Z]at Y;cases Y;rw[Tp,ES,S,by change Awf=Bnt k;rw[Int.zero_add]]
  ·rw[Uz,C,G];rw[Vc]
 |_=>rw[Vc]
def apf(Y:Bc O e):xo N X E cl Af tg O (.keys e):=by
 rw[Wy,t,p,q];rw[Vk,ahv p,x,R];show Gw (h.aM λd u v n J Q s C G=>?_);cases d with
 |dict T=>
  obtain⟨a,o,rfl,z,F,D⟩:=C;rw[Ts,a,o,Ab,AK [HV,z,G.2 _ _ _ ES s ?_]];intro g k I M i b l S;let j:=(l.fz a _ Ab z F.1).1;rw[Vm,sN.turn];cases f:(T.map _)[k]? with
  |none=>rw[Th,j,Aq]
  |some p=>
   let Z:=(Dj f).1;rw[sr]at Z;rw[Uf,Bhb j];rintro v P⟨rfl,U,w,L,rfl⟩;rw[tD]at L f;rw[VA,c,W,f];rw[W]at L;obtain⟨rfl,rfl⟩:(Alc _)=U/\_=w:=by let L:=GF L;rw[Th,vo Prod.fst L,vo Prod.snd L]
   rw[Ts,ES,S,Ab,λm=>sj7 Z ?_];let:=(m a).2.2 _ (Kq o j);rwa[sr]at this
 |_=>rw[Vc]
end
def seb:Bh->String|true=>Bxs|false=>Dda
def ua(b:Bool)(h:Heap)(M a:Addr)(i:Nat):Al:=∃o,MP M=Ai/\Aea=DN (seb b)/\IC=Qy #[Be,GU i 0]
def xq(b:Bool)(h:Heap)(a:Addr)(C:Aae):Al:=[Cpq,h.IsTuple a C,h.IsList a C]
theorem ua.at(x:ua b h M a i)(k:∀o,MP M=Ai->QX M=Ai):ua b g M a i:=Ddu [Am,o,k o e,r]
theorem ua.ext(x:ua b h M a i)(e:Byo c h)(n:M≠c):ua b g M a i:=x.at λo q=>e _ o n q
theorem ua.lt(x:ua b h M a i):M<GC:=Dbo
theorem xq.at(x:xq b h a C)(k:∀o,OS=Ai->QX a=Ai):xq b g a C:=by cases b<;>show Ddu [Am,o,k o e,r]
theorem xq.ext(x:xq b h a C)(e:Byo c h)(n:a≠c):xq b g a C:=x.at λo q=>e a o n q
theorem xq.lt(x:xq b h a C):a<GC:=by cases b<;>show Dbo
section
variable{prog:Program}{w:World}{A:Around}{E:Value->Shared->Prop}{s:Shared}{b b1 b2:Bool}
def kB(t:ua b Bg M a i)(U:Aex b a C)(O:Adz=Bi)(H:∀g,ua b g M a (i+1)->Bot M g->Q x Sy):MB (Bxp (AC M)):=by cases b with|false=>show wpAny_nextOf_list_item t U O H|true=>let h:Dfb a i:=t;obtain⟨o,Z,L,j⟩:=t;rw[Wj,c,k,_,n,d];rw[To,seB Cjy sfU (Atc sfU Cjy Czv Czk)];show [Amp,EK _ _ (Bly _ 0 _) _ _,Bku Z Ab];show [Amp,EK _ _ _ _ _,Bku Z Ab];show [Amp,EK _ _ _ _ _,sav k d ?_];simp[sP,O];rw[To,saT Z j AN (Fv [Am,x,Ab,Fv (H _ [Ky,sbJ _ Z (sdl (zO j _)),DT (sgP ..) L,DY (zO j)] Cjs)])]
def kC(f:Bbp=Ad)(t:ua b Bg M a i)(U:Aex b a C)(O:Adz=Ad)(r:∀g e,Byo M Bg->(∃o,QX e=Ai/\Aea=DN Bxt)->E (AC e) Sy):MB (Bxp (AC M)):=by
 cases b with
 |false=>show wpAny_nextOf_list_end f t U O r
 |true=>
  let h:Dfb a i:=t;obtain⟨o,Z,L,j⟩:=t;rw[Wj,c,k,_,n,d];rw[To,seB Cjy sfU (Atc sfU Cjy Czv Czk)];show [Amp,EK _ _ (Bly _ 0 _) _ _,Bku Z Ab];show [Amp,EK _ _ _ _ _,Bku Z Ab];show [Amp,EK _ _ _ _ _,sav k d ?_];rw[UC,sP,O];rw[To,Cqy (saT Z j AN ?_)];show Ako (wpAny _ _ _ _ _ _) PP;rw[To,yT [Ib,wpAny_of_eq Em (Ctr)] Cyk];rw[To,Dce];first|rw[Ciw Dfm Ad]|rw[f]
  rw[To,Fv (wpAny_throw (r _ _ (PV ((Cjs).extBut.push _) _) [Oi,IE]))]
def apg(f:Bbp=Ad)(M a:Addr)(B:a≠M)(C:Aae):Draws prog w A M [M,a] Btq (Jl v (Adz=Fj)) (Abw (ua b h M a i/\xq b h a C))where
 live:=Kh st (let⟨o,D,_⟩:=st.1;Aj o D)
 frame:=λ_ _ _ st Z=>[Aj,st.1.at λo e=>Z _ AN o e,st.2.at λo e=>Z a AN o e]
 item:=λi s Q E F st H=>kB st.1 st.2 (x:=C[i]) Ag λg q P=>H _ _ _ Ag [Aj,q,Aqj st.2 P B] P
 done:=λs Q E st r=>kC f st.1 st.2 AN r
def adM(U:Aex b a C)(H:Q (PR) [Sz,Adi (seb b) #[Be,Apl]]):MB (Bum Gk):=by cases b with|false=>show sgJ U H|true=>show sfT U H
end
section
variable{X:Cx}{pins:List (Addr×Obj)}{σ:L2.St}{H:Hp}{s:Shared}{b:Bool}
def dm(I:Bu)(h:tU Ar H b a J):∃W:BA,Ku J/\Aex b a [HU,W]:=by cases b with|true=>rw[Vy,i,f,p,_,h];rw[Ua,f,p]|false=>rw[VB,i,f,p,_,h];rw[Ua,f,Cjv]
def pQ(I:Bu)(h:tU Ar H b a J)(g:tU Ar H b a W):J=W:=by cases b with|true=>show I.qF h g|false=>show I.qE h g
end
def sik(K:PySem.W.Frag)(b:Bool)(a:Addr):It:=[Bfq,H,∃(C:Ba)(x:V),tU K H b a C/\Adz=Bi,λi H v M=>∃T x,v=AC T/\H T=Ad/\M=Aeo (Aql [Cn,i] x)/\∀C,tU K H b a C->Adz=Bi,H,∃C:Ba,tU K H b a C/\BC<=i]
def aph{K:PySem.W.Frag}(a e M:Addr):yh P w K (Anb Q0 kk V0) (sik K b a) [e,M] e (Abw ((∃C0,IsEnum h e M [Ay,i] C0)/\ua b h M a i/\e≠M/\a≠M/\a≠e))where
 mem:=AY
 obj:=λi h st c T=>by obtain⟨⟨C0,Y⟩,⟨o,Z,L,hd⟩,_⟩:=st;grind
 keep:=λi h g st k=>let⟨⟨C0,Y⟩,hi,l0⟩:=st;Am [Ke,k e AN _ Y] (hi.at λo q=>k _ AN o q) l0
 item:=by
  intro X hP hw m L i S s D H E I R st J;subst hP hw m;rw[Xk,⟨C0,Y⟩,t,l0,j,E0];obtain⟨C,x,hq,O⟩:=J;rw[Te,W,f,y,dm I hq];rw[UT,hu,ru,Cim];let J0:=uP Y;let U0:=t.lt;rw[Tq,hi,i<Bbf W]
  show wpAny_pyNext_enum_itemD (apg (Ako (X.A.in1.handled=Ad) Dgf) _ a j [HU,W]) Y [Aj,t,y] hi l0 Ag λv g B hv Z O0 p r hk=>?_;rw[VM,v=u,Aq]
  rw[Vh,wpAny_letOwnedTupleGo_enum (s:=Dcx (B+1)) Z [Bz,D0,I0,U]];let G0:=Mh _ (saL J0) p;let P0:tN By BD (Ei AR (CN CI x)) D0 AR (CN CI x):=[AO,by change Cu 2;decide,[GU i B,v],Jo SE (EJ ru),Gd _ G0 _ Ab];let I1:QC (Ei AR (CN CI x)) {s with heap:=D0,toks:=B+1}:=I.rK (ch:=[e,M]) (λc ob T q=>Mh c [GK,T (CO z)] (hk c ob [GK,T (CO z)] [GK,T (CO z)] q)) R Do P0;show BF PR _ I1 Ab [OT,_,x,Adv,Ab,λys hy=>by rw[pQ I hy hq];show O] [DL,Aj v I0,O0.1.at λo q=>Mh M (uc l0) q,l0,j,E0] [AV,c,T];let d:c<AR:=by rcases Cqa with rfl|rfl<;>assumption
  rw[Cmp d];show(R c T).1
 done:=by intro X hP hw m L i S s D H E I R st J;subst hP hw m;rw[Xk,⟨C0,Y⟩,t,l0,j,E0];obtain⟨C,hq,O⟩:=J;rw[Te,W,f,y,dm I hq];rw[TZ,n,G,f2,N,f4,f5,R M AN];let p:Bck (AC e) Oa:=Oi Y;rw[To,sbI (Byv p Daz (Atc Daz p F.entry_enumerate_next (F.args_enumerate_next_1 _)))];show Amp [EQ,_,_,Bly (AC e) 2 _,_,_,_] [Cuv,Y,AC M,Ab];rw[To,kC ND t y (by simp;rw[<-AG f];show O) [BV,g,v,l,hv]];obtain⟨o,Z,H0⟩:=hv;rw[To,Czp Bxt [Am,o,Z,H0] (Fv [Bgq,(λc o T q=>l c o T q),n,N,f4,f5])]
 self:=λA i s Q E st h=>let⟨⟨_,Y⟩,_⟩:=st;wpAny_pyIter_enum Y h
def api(l:Addr)(a:Aae)(n:Nat)(D:Mx)(y:Bba (EU)):Buy (Builtin.«enumerate.__new__» [Ks,[DN Oa,FR]]) [LU,R,s,Ev l=Ae {cls:=Adm,dict:=D,data:=Brw a,slots:=y}/\R (EG (Pt [Btu,(Adi Bxs #[FR,Apl])])) [Sz,[PV,Adi Bxs #[FR,Apl],Aqz Oa #[BM,Aqq,PR,Acu 0,BM,BM]]]]:=Buq λz w A R s h=>by
 rw[WR,Y,g,d,B];rw[UJ,U,h];let H:=sub_enumerate;let W:Heap.IsTuple [Ctd,Afj Y g d B] l a:=Gd _ U n Ab;wp_walk using zx U;show wpAny_stack_any λst=>Mb;split;·rename_i c _ _ _ _ _;cases(c==Bzf Oa)<;>(wp_walk using zx U,sfT W;rw[Vh,h])
 ·wp_walk using zx U,sfT W;rw[Vh,h]
section
variable{prog:Program}{w:World}{A:Around}{E:Value->Shared->Prop}{s:Shared}{b b1 b2:Bool}
def apj(W:Aex b l a)(h:∀g,IsEnum g (AR+1) AR 0 BM->ua b g AR l 0->(∀c o,Ev c=Ai->QX c=Ai)->Q (AC (AR+1)) Sy):MB (Ajd [DN,Oa] [FR]):=by
 cases b with
 |false=>show call_enumerate_list W λg X S _ p=>h _ X S p
 |true=>
  obtain⟨⟨c,D,d,y⟩,U,L,n,j⟩:=W;obtain rfl:c=DN _:=L;obtain rfl:d=Brw _:=j;show callType_new F.called_enumerate Em (F.typeCall_enumerate_1 _) (F.newCall_enumerate_1 _) (E_ (F.args_object_init_2 _ _)) F.entry_enumerate_new (api _ _ _ _ _) [FY,U];let B:La (Adi Bxs #[FR,Apl])=AR+1:=wS ..;rw[B];let Y:IsEnum ([PV,Adi Bxs #[FR,Apl],Aqz Oa #[BM,Aqq,PR,Acu 0,BM,BM]]) (AR+1) AR 0 BM:=by let:=zG (Adi Bxs #[FR,Apl]) (o:=Aqz Oa #[BM,Aqq,PR,Acu 0,BM,BM]) Ab;grind
  rw[Th,Oi Y,h _ Y [Blw,SD (IE)] [HM,o,x,SD (SD x)]]
def apk{TI TO:Addr}(D:ZipApart z TI TO t d Z I)(B:IsZip Bg z TI TO BM)(j:Aij Bg TI (RK) (Apd))(u:Aij Bg TO a c)(G:ua b1 Bg t Z k)(h2:ua b2 Bg d I U)(m:Aex b1 Z C)(V0:Aex b2 I ys)(O:Aik=Bi)(hy:ys[U]?=Nc)(H:∀g,IsZip g z TI TO (Acu AR)->Aij g TO x y->ua b1 g t Z (k+1)->ua b2 g d I (U+1)->Aij g AR x y->(∀c o,GJ z->GJ TO->GJ t->GJ d->Ev c=Ai->QX c=Ai)->Q (Ex AR) Sy):MB (Blq Ajw):=by
 let p:Bck Ajw Rj:=Oi B;rw[To,sbI (Byv p sfV (Atc sfV p Ddj Dbl))];show Amp [EQ,_,_,Bly Ajw 2 _,_,_,_] [Cuv,B,Aqq,Ab];show Amp [EQ,_,_,Bly Ajw 3 _,_,_,_] [Bqu,B,AC TI,Ab,Ib (sav j Ab ?_)];show Ako [EQ,_,_,Cyt Ajw>>=_,_,_,_] PP;rw[To,Bqu B BM Ab OV];rw[To,Cqy [Bqu,B,AC TO,Ab,Ib [Bvt,B,λY0 T i=>PP]]];rw[W_,Ckw [EQ,_,_,Bxp (RK)>>=_,_,_,_]];rw[To,kB (Cuw Avn) (Cux Avn) O λS Y h=>Mb];let R:=Brb _ D.TOi1 (Cal _ D.TOz u);rw[To,sav R Ab [Ib,sil R λX U0 l=>Cqq OV]];rw[W_,Ckw [EQ,_,_,Bxp (Apd)>>=_,_,_,_]];rw[To,kB (Aqj (Aqj (h2.ext Avn D.i2z) h D.i12.symm) l Csh) (Aqj (Aqj (V0.ext Avn D.l2z) h D.l2i1) l D.l2TO) hy λL P0 n=>Mb];let C0:=n.extBut _ _ D.TOi2 U0;rw[To,sav C0 Ab [Ib,sil C0 λJ f l0=>Cqq (Fv OV)]];replace f:Aij J TO x y:=f;rw[To,sav f Ab [Ib,wpAny_newTuple ?_]];let r:La J=AR:=by rw[l0.1,n.1,l.1,Bk,i.1]
 let I0:=Ckl _ Ctb (n.extBut _ _ D.i2z.symm (Brc _ Ctb (Brb _ Ctc T)));let O0:=Aqj (Aqj (Y.ext l.extBut D.TOi1.symm) n D.i12) l0 D.TOi1.symm;let Q0:=P0.ext l0.extBut Csh;let H0:=uP I0;show Ako [EQ,_,_,Builtin.SmallTypes.ownedTupleHandOut Ajw (Btu J)>>=_,_,_,_] PP;let W0:IsZip (J.push [Ays,#[x,y]]) z TI TO .ellipsis:=SD I0;rw[To,Bvt W0 [Bz,Z0,X0,E0]];show Bvt X0 [Bz,v,J0,G0];let N:∀c o,GJ z->J.get? c=Ai->v.get? c=Ai:=λc o W e=>G0.extBut _ _ W (E0.extBut _ _ W (Aiq));let D0:Aij v [La,J] x y:=G0.extBut _ _ (saL H0) (E0.extBut _ _ (saL H0) (IE));rw[r]at J0 D0;show Buw Mb;rw[r];show H v J0 (N _ _ D.TOz f) (O0.at λo e=>N _ o D.i1z e) (Q0.at λo e=>N _ o D.i2z e) D0 λc o W P M q e=>N c o W (Ckl _ P (n.extBut _ _ q (Brc _ P (Brb _ M (Cal _ W e)))))
def apl{TI TO:Addr}(f:Bbp=Ad)(D:ZipApart z TI TO t d Z I)(B:IsZip Bg z TI TO BM)(j:Aij Bg TI (RK) (Apd))(u:Aij Bg TO a c)(G:ua b1 Bg t Z k)(h2:ua b2 Bg d I U)(m:Aex b1 Z C)(G0:Aex b2 I ys)(E0:Aik=Ad\/ys[U]?=Ad)(H:∀g,(∀c o,GJ z->GJ TO->GJ t->GJ d->Ev c=Ai->QX c=Ai)->Q Ad Sy):MB (Blq Ajw):=by
 let p:Bck Ajw _:=Oi B;let bf:∀{g:Heap}{e:Addr},(∀c o,GJ z->GJ TO->GJ t->GJ d->Ev c=Ai->QX c=Ai)->(∃o,QX e=Ai/\Aea=DN Bxt)->wpAny Agp A (do if<-isInstance (.ref e) (.type "StopIteration")then pure none else throw (.ref e)) Q E Sy:=by intro g e hk Y;rw[Wy,o,ho,L];rw[To,Czp Bxt [Am,o,ho,L] (Fv (H _ hk))]
 rw[To,sbI (Byv p sfV (Atc sfV p Ddj Dbl))];show Amp [EQ,_,_,Bly Ajw 2 _,_,_,_] [Cuv,B,Aqq,Ab];show Amp [EQ,_,_,Bly Ajw 3 _,_,_,_] [Bqu,B,AC TI,Ab,Ib (sav j Ab ?_)];show Ako [EQ,_,_,Cyt Ajw>>=_,_,_,_] PP;rw[To,Bqu B BM Ab OV];rw[To,Cqy [Bqu,B,AC TO,Ab,Ib [Bvt,B,λJ0 T i=>PP]]];rw[W_,Ckw [EQ,_,_,Bxp (RK)>>=_,_,_,_]];cases O:Aik with
 |none=>
  rw[To,kC f (Cuw Avn) (Cux Avn) O [BV,S,e,h,Y]];rw[Wy,v,y,r];let C0:=h _ _ Ctc T;rw[UF,N,e,z,x,by subst x;rw[C0]at y;cases y;simp at r]
  show Bvt C0 λX _ l=>bf (λc o W _ M _ x=>Brc _ W (h _ _ M (Cal _ W x))) [Am,v,Brc _ N y,r]
 |some x=>
  let hy:=E0.resolve_left [Eb,O,Option.some_ne_none x];rw[To,kB (Cuw Avn) (Cux Avn) O λS H0 h=>Mb];let R:=Brb _ D.TOi1 (Cal _ D.TOz u);rw[To,sav R Ab [Ib,sil R λX I0 l=>Cqq OV]];rw[W_,Ckw [EQ,_,_,Bxp (Apd)>>=_,_,_,_]];rw[To,kC f (Aqj (Aqj (h2.ext Avn D.i2z) h D.i12.symm) l Csh) (Aqj (Aqj (G0.ext Avn D.l2z) h D.l2i1) l D.l2TO) hy [BV,O0,e,n,Y]];rw[Wy,v,y,r];let D0:=n _ _ D.i2z.symm (Brc _ Ctb (Brb _ Ctc T));rw[UF,N,e,z,x,by subst x;rw[D0]at y;cases y;simp at r]
  show Bvt D0 λJ _ l0=>bf (λc o W P M q x=>Ckl _ W (n _ _ q (Brc _ P (Brb _ M (Cal _ W x))))) [Am,v,Ckl _ N y,r]
end
abbrev sfW(h:Heap)(r:Bool)(Z:Addr):Ajl:=h.push [Aqz,(seb r),#[AC Z,Apl]]
abbrev sfX(h:Heap)(r v:Bool)(Z I:Addr):Ajl:=[PV,sfW h r Z,Aqz (seb v) #[AC I,Apl]]
abbrev sfY(h:Heap)(r v:Bool)(Z I:Addr):Ajl:=[PV,sfX h r v Z I,Ays #[AC GC,Btu (sfW h r Z)]]
abbrev sfZ(h:Heap)(r v:Bool)(Z I:Addr):Ajl:=[PV,sfY h r v Z I,Ays #[BM,BM]]
abbrev scG(h:Heap)(r v:Bool)(Z I:Addr):Ajl:=[PV,sfZ h r v Z I,Aqz Rj #[BM,Aqq,Aqq,Btu (sfX h r v Z I),Btu (sfY h r v Z I)]]
def apm(r v:Bool)(Z I:Addr)(C O:Aae):Buy (Builtin.«zip.__new__» [Ks,[DN Rj,AC Z,AC I]]) [LU,R,s,Aex r Z C/\Aex v I O/\R (EG (Pt [Btu,(sfZ Bg r v Z I)])) [Sz,scG Bg r v Z I]]:=Buq λz w A R s h=>by rw[WR,Y,g,d,B];rw[Ut,m,D,h];let H:=sub_zip;let a:xq r [Ctd,Afj Y g d B] Z C:=m;let b:xq v [Ctd,Afj (Y.push [Aqz,(seb r),#[AC Z,Apl]]) g d B] I O:=D.at λo e=>Aiq;wp_walk using adM a,adM b;rw[Vh,h]
section
variable{prog:Program}{w:World}{A:Around}{E:Value->Shared->Prop}{s:Shared}{b b1 b2:Bool}
def apn(m:Aex b1 Z C)(H:Aex b2 I O)(h:∀g,IsZip g (AR+4) (AR+2) (AR+3) BM->Aij g (AR+2) (PR) (AC (AR+1))->Aij g (AR+3) BM BM->ua b1 g AR Z 0->ua b2 g (AR+1) I 0->(∀c o,Ev c=Ai->QX c=Ai)->Q (AC (AR+4)) Sy):MB (Ajd [DN,Rj] [AC Z,AC I]):=by
 show callType_new F.called_zip Dc (F.typeCall_zip_2 _ _) (F.newCall_zip_2 _ _) (E_ (F.args_object_init_3 e _ _)) F.entry_zip_new (apm b1 b2 Z I C O) [HS,m,H];let B:La (sfW Bg b1 Z)=AR+1:=wS ..;rw[UX,l,La (sfX Bg b1 b2 Z I),AR+2,wS,B]
 rw[UX,y,La (sfY Bg b1 b2 Z I),AR+3,wS,l]
 rw[UX,z,La (sfZ Bg b1 b2 Z I),AR+4,wS,y]
 let N:=λ(h:Heap)(o:Obj)(c:Addr)(q:Obj)(x:h.get? c=some q)=>scH o x;let d:[QN,scG Bg b1 b2 Z I,La (sfZ Bg b1 b2 Z I)]=CU:=IE;let a:[QN,scG Bg b1 b2 Z I,La (sfY Bg b1 b2 Z I)]=CU:=N _ _ _ _ (IE);let G:[QN,scG Bg b1 b2 Z I,La (sfX Bg b1 b2 Z I)]=CU:=N _ _ _ _ (N _ _ _ _ (IE));let v:[QN,scG Bg b1 b2 Z I,La (sfW Bg b1 Z)]=CU:=N _ _ _ _ (N _ _ _ _ (N _ _ _ _ (IE)));let D:QN (scG Bg b1 b2 Z I) AR=CU:=N _ _ _ _ (N _ _ _ _ (N _ _ _ _ (N _ _ _ _ (IE))));change _/\_;rw[l,y,z]at d;rw[B,l]at G;rw[y]at a;rw[B]at v;rw[z];rw[Th,Oi d,h _ d G a [Blw,D] [Blw,v] λc o x=>N _ _ _ _ (N _ _ _ _ (N _ _ _ _ (N _ _ _ _ (N _ _ _ _ x))))]
end
def sf_(K:PySem.W.Frag)(r B:Bool)(a b:Addr):It:=[Bfq,H,∃(C O:Ba)(x y:V),tU K H r a C/\tU K H B b O/\Adz=Bi/\O[i]?=Nc,λi H v M=>∃T x y,v=AC T/\H T=Ad/\M=Aeo (CN x y)/\(∀C,tU K H r a C->Adz=Bi)/\∀O,tU K H B b O->O[i]?=Nc,H,∃C O:Ba,tU K H r a C/\tU K H B b O/\(BC<=i\/LF<=i)]
def apo{K:PySem.W.Frag}{TI TO:Addr}(D:ZipApart z TI TO t d a b):yh P w K (Anb Y0 kk C1) (sf_ K r v a b) [z,TI,TO,t,d] z (Abw (IsZip h z TI TO BM/\Aij h TI (RK) (Apd)/\(∃x y,Aij h TO x y)/\ua r h t a i/\ua v h d b i))where
 mem:=AY
 obj:=λi h st c L=>by rw[Xk,B,j,⟨x,y,l0⟩,⟨o1,e1,_,d1⟩,⟨o2,N,_,d2⟩];grind
 keep:=λi h g st k=>by rw[Xk,B,j,⟨x,y,l0⟩,G,h2];rw[TU,k z AN _ B,k TI AN _ j,Am x y (k TO AN _ l0),G.at λo q=>k t AN o q,h2.at λo q=>k d AN o q]
 item:=by
  intro X hP Y m L i S s σ H E I R st J;subst hP Y m;rw[Xk,B,j,⟨x0,y0,l0⟩,G,h2];obtain⟨C,ys,x,y,e,n,O,hy⟩:=J;rw[Te,W,f,p1,dm I e];rw[Te,W0,D0,p2,dm I n];rw[UT,F,ru,Cim];rw[Te,u2,Z0,V0,D0.get hy];let G0:z<AR:=uP B;show apk D B j l0 G h2 p1 p2 (x:=u) (y:=u2) Ag Ag λg z' H0 I0 J0 p Z=>?_;rw[Vh,wpAny_letOwnedTupleGo_zip (s:=Sy) z' [Bz,C0,X0,U]];let O0:C0.get? AR=Ae [Ays,#[u,u2]]:=Mh _ (saL G0) p;let U0:tN By BD (Ei AR (CN x y)) C0 AR (CN x y):=[AO,by change Cu 2;decide,[u,u2],Jo ru (EJ V0),Gd _ O0 _ Ab];let I1:SA σ (Ei AR (CN x y)) {s with heap:=C0}:=I.rK (t':=s.toks) (ch:=[z,TI,TO,t,d]) (λc o T q=>Mh c (λM=>T Ag) (Z c o (λM=>T Ag) (λM=>T Ag) (λM=>T Ag) (λM=>T (CO M)) q)) R Do U0;show BF PR _ I1 Ab [DB,_,x,y,Ab,Adv,Ab,λl hl=>by rw[pQ I hl e];show O,λl hl=>by rw[pQ I hl n];show hy] ⟨X0,?_,HS u u2,?_,?_⟩ [AV,c,E0];·show Mh _ D.TIz (Z _ _ D.TIz D.TITO D.TIi1 D.TIi2 j)
  ·show Mh _ D.TOz H0
  ·show I0.at λo q=>Mh _ D.i1z q
  ·show J0.at λo q=>Mh _ D.i2z q
  ·let Q0:c<AR:=by
    rw[YW,(show c=z\/c=TI\/c=TO\/c=t\/c=d by simpa using E0)];·show G0
    ·show uP j
    ·show uP l0
    ·show G.lt
    ·show h2.lt
   rw[Cmp Q0];show(R c E0).1
 done:=by intro X hP Y m L i S s σ H E I R st J;subst hP Y m;rw[Xk,B,j,⟨x0,y0,l0⟩,G,h2];obtain⟨C,ys,e,n,P0⟩:=J;rw[Te,W,f,p1,dm I e];rw[Te,W0,D0,p2,dm I n];let l1:=f.length;let l2:=D0.length;show apl ND D B j l0 G h2 p1 p2 (P0.imp (λq=>Crf) λq=>Crf) λg Z=>Q_ (I.aho (t':=s.toks) (ch:=[z,TI,TO,t,d]) (λc o T q=>Z c o (λM=>T (CO M)) (λM=>T (CO M)) (λM=>T (CO M)) (λM=>T (CO M)) q) R)
 self:=λA i s Q E st h=>wpAny_pyIter_zip st.1 h
section
variable{N:Nm}{X:Cx}{E:XK}{cl:Cl}{B:Bs}{H:Hp}{st:sd}
def slF(K:PySem.W.Frag)(L:TA):TI:=λD H R=>L D H λJ n=>∃b a C,J=[Be]/\tU K n b a C/\R (sik K b a) n
def apq(J:Gl X Oa)(F:Afo Oa=Ad)(M:Ajm [e] L)(P:Lb [e]=[Sb]):PI X (Anb i k c) (Hk (PF Oa p) [e] Q) (slF Ar L):=by
 rw[Vg,D,R];show Call_ (f7 I J F boot_enumerate (sex [Cr,M _ _ s _ H _ I h,λW m⟨_,n,A,g,U⟩=>?_] P Ab));obtain⟨b,a,C,rfl,G,q⟩:=U;cases g with
 |cons r d=>
  cases d;rw[Uj];rw[Te,W,f,y,dm A G];let l:=y.lt;show apj y λO Y t Z=>wpAny_pyIter_enum Y ?_;show⟨_,_,_,_,_,Ab,A.kept Z,aph ..,[DL,Ke Y,t,Ag,uQ l,Ag],AV b T,q⟩;rw[Tq,o,Rm<=b]
  show A.f8 o (Bpx o)
def slG(K:PySem.W.Frag)(L:TA):TI:=λD H R=>L D H λJ n=>∃r v a b C O,J=[Be,Nv]/\tU K n r a C/\tU K n v b O/\R (sf_ K r v a b) n
def apr(J:Gl X Rj)(x:Afo Rj=Ad)(M:Ajm [e,T] L)(P:Lb [e,T]=Sb::Lb [T])(y:Aop D0 (Lb [T])=Af):PI X (Anb i kk E0) (Hk (PF Rj p) [e,T] D0) (slG Ar L):=by
 rw[Vg,D,R];show Call_ (f7 I J x Em (sex [Cr,M _ S s D H _ I h,λW m⟨vs,n,A,g,U⟩=>?_] P y));obtain⟨b1,v,a,b,C,O,rfl,l0,C0,q⟩:=U;cases g with
 |cons r d=>
  cases d with
  |cons F d=>
   cases d;rw[Uj];cases F;rw[Te,W,f,w,dm A l0];rw[Te,t,k,Q,dm A C0];show apn w Q λh' Y j u G z Z=>wpAny_pyIter_zip Y ?_;show⟨Rm+4,[Rm+4,Rm+2,Rm+3,Rm,Rm+1],_,_,n,Ab,A.kept (t':=m.toks) Z,apo (PySem.W.ktu_apart Rm a b w.lt Q.lt),DL Y j [HV,_,u] G z,AV c l,q⟩;let o:Rm<=c:=by rw[YW,(by simpa using l)]<;>omega
   show A.f8 o (Bpx o)
def adN(S:Bnd)(p:H T=Ad)(m:Rp Br B H x u)(R:Rp Br B H y w):Md B (Aeo (CN u w))/\Aum Br (Aeo (CN u w))/\scC Br Aa B (Aeo (CN u w)) (x,y) (AC T):=by let q:=cf (o:=CN u w) S p;show⟨q,S.new p,T,u,w,Ab,AK (AK ac),m.mono q,Bqa⟩
def adO{K:PySem.W.Frag}(p:H T=Ad)(h:tU K H b a J):tU K (Aeo o) b a J:=by
 let f:∀{u:HO},Qv u->Rd (Aeo o) a u:=λ{u}h=>by grind[Rd,ai]
 cases b<;>show h.imp f id
def aps(r:Afy d Gk):sat N Aa (sik AS (sau d) a) (Qd d) B H:=by intro g k L M s h l S;let A:=r.wide l h;cases e:tP s d with|none=>rw[UC,sN.turn,e];trivial|some C=>rw[Tk,c,J,t,G,z,kA S A e];cases t;cases f:Aik with|none=>simp only[sN.turn,e,sfS,f,Option.map_none,tG];rw[Tp,J,G,z.none f]|some x=>simp only[sN.turn,e,sfS,f,tG];rw[UT,F,D,z.get f];rw[Uf,AO J u G F];rintro v j⟨T,P,rfl,p,rfl,Q⟩;let:=Cjm (Q J G) F;rw[Ve];rw[Te,U,R,q,adN (x:=AZ k) (u:=Cjo k) S p Ab (Ayt D)];rw[Ts,U,R,q,λm=>MD (Dj F).1 (pP m (adO p G))]
def apt(m:Ar=AS)(J:Gl X Oa)(F:Afo Oa=Ad)(P:tu O=Aa)(Y:Bc O e):xo N X E cl Aa (Anb i U c) (Hk (PF Oa p) [O] s) (Qd e):=by rw[Wy,t,p,q];rw[Vk,apq J F (bL p cY (aC P)) (aC P),Q,R];show Gw (h.aM λd I v n W Z o g G=>?_);cases k:tP I d with|none=>show(G.1 (by simp[sN.turn,k];rfl)).elim|some C=>rw[Vn,a,M,D,L,kA o g k];rw[m];show Ds _ a _ Ab D (G.2 _ _ _ ES o (aps g))
def apu(G:∀g L M,([Bea,a∈EB,AM=Ad])->DV->tU AS M r a J/\sQ Br L M C J)(z:∀g L M,([Bea,a∈EB,AM=Ad])->DV->tU AS M Aa b W/\sQ Br L M O W):sat N Aa (sf_ AS r Aa a b) (Ly (Awg)) B H:=by intro g k L M s c l S;rw[Tc,U,d,G g L M c l];rw[Tc,R,P,z g L M c l];rw[Vm,sN.turn];cases f:(Awg)[k]? with|none=>rw[List.getElem?_eq_none_iff,sj5]at f;show⟨J,W,U,R,?_⟩;rw[<-AG d,<-Atk];omega|some p=>rw[Tc,e,n,List.getElem?_zip_eq_some.mp f];rw[UT,F,D,d.get e];rw[Te,w,A,I,P.get n];rw[Uf,DB J W u w U R F A];rintro v j⟨T,q,t,rfl,Z,rfl,Q,h⟩;let:=Cjm (Q J U) F;rw[Ve];let:=Cjm (h W R) A;rw[Ve];rw[Te,i,o,Y,adN (x:=Ax) (y:=BE) S Z (Ayt D) (Ayt I)];rw[Ts,i,o,Y,λm=>MD (Dj F).1 (pP m (adO Z U))]
def adP(j:d=KG\/d=Fo)(r:Pa):∃a J,v=Be/\∀g L M,([Bea,a∈EB,AM=Ad])->DV->tU AS M (sau d) a J/\sQ Br L M C J:=by
 rcases j with rfl|rfl
 ·rw[WE,a,J,G,z];rw[Ts,a,J,Ab,EA g L M A l];rw[YA,T];·rw[Th,AK (AK (l.fz a _ Ab G T.1).1),Bey (λb o O U R=>Am (Anr b Aju U R.1).1 (Anr b Aju U R.1).2 [GG,(A b h).elim R.2 Cbv]) z]
  ·rw[Th,Bw G,Bey (λb o O U R=>Am (Anr b Aju U R.1).1 (Anr b Aju U R.1).2 [GG,(A b h).elim R.2 Cbv]) z]
 ·rw[XA,a,J,G,T,z];rw[Ts,a,_,Ab,λg L M A l=>[Aj,AK (AK (l.fz a _ Ab G T.1).1),Bey (λb o O U R=>Am (Anr b Aju U R.1).1 (Anr b Aju U R.1).2 [GG,(A b h).elim R.2 Cbv]) z]]
def apv(m:Ar=AS)(J:Gl X Rj)(hm:Afo Rj=Ad)(P:tu pe=Aa)(i:tu L=Aa)(Y:Bc pe e)(hf:Bc L f):xo N X E cl Aa (Anb E0 kk c) (Hk (PF Rj p) [pe,L] s) (.zip e f):=by
 rw[Wy,t,p,q];obtain⟨T,Q,q2⟩:=hf;rw[XU,apr J hm (bL p (bL Q cY (aC i)) (aC P)) (aC P) (kj (CO i)),D,A,R,hE];rw[TM,xm N Aa B H R E (Ms Anl [M_,f] y ([Cxj,Bmd (Awg),Bmd (Awg)]))];show Bkw D A st hE (h.aM λd D0 v n W Z o g G=>?_);show q2 D n W A D0 _ (hE.mono Z) o (G.aM λI u l j w l2 S2 r2 z=>?_);let C0:∀C O,(d=KG\/d=Fo)->I=BH O->xm N Aa w j R E (JI [Ly,(Awg)] u)->∃r b2 a b C O,[v,l]=[Be,Nv]/\tU Ar j r a C/\tU Ar j b2 b O/\R (sf_ Ar r b2 a b) j:=by intro C O hd l0 F;rw[Tj,a,vs,rfl,k,adP hd (g.mono l2)];rw[Tj,b,us,rfl,U,adP (AK l0) r2];rw[m];subst l0;show⟨_,Aa,a,b,vs,us,Ab,(k EB w j (λa M=>AK M) ES).1,(U EB w j (λa M=>AK M) ES).1,F.2 _ j w ES S2 (apu k U)⟩
 cases d with
 |tup C=>cases I with|tup O=>show C0 C O GZ Ab z|_=>rw[WY]
 |lst C=>cases I with|tup O=>show C0 C O Aot Ab z|_=>rw[WY]
 |_=>rw[WY]
end
section
variable{N:Nm}{X:Cx}{E:XK}{cl:Cl}{B:Bs}{H:Hp}{st:sd}{Q:VK}
def Pk(N:Nm)(E:XK)(l:sbL)(r:Qg):Al:=∀{B H st O J Q},A_->LS (Rp N B H) J->De [Avf,l,O]->r J H Q
def adQ(k:Pk N E l r){es:Hs}(q:∀D H B A st Q,Akf->A_->uL N B H Q E (MZ b A)->t D H Q):∀D H B A st Q,Akf->A_->De [M_,(Ld l b)]->sgz r t D H Q:=by intro D H B A st Q C S h;show Bkw _ _ _ C (Bbu λO s e J n W Z o g G=>k o g G)
def dr{id:String}(k:Pk N E l r)(L:LQ (Asd) r)(J:Ii)(h:ID=Ad)(O:Bxv=As Asd)(f:x≠Biz)(j:Gu=Af)(P:Gv (e::R) tu=Aa)(M:Qo N X E (e::R) b):Bc (Jp (e::R) s) (Ld l b):=by rw[Wh,t,C];rw[Vp,P];rw[Ua,agr L J h O C f j (Bdv) (Bdw),adQ (es:=e::R) k q]
def adR(k:Pk N E l r)(L:LQ (DN T) r)(J:Ii)(h:ID=Ad)(O:Bxv=As [DN,T])(f:x≠Biz)(j:Gu=Af)(P:Gv (e::R) tu=Aa)(M:Qo N X E (e::R) b):Bc (Jp (e::R) s) (Ld l b):=by rw[Wh,t,C];rw[Vp,P];rw[Ua,ags L J h O C f j (Bdv) (Bdw),adQ (es:=e::R) k q]
def ie:An KE=Qc:=Ch
def sim(K:PySem.W.Frag):Qg:=λC H Q=>((∃p O,C=[SO]/\(Pl p O\/vZ K H p O)/\Amg LF)\/∃z,C=[Cw z]/\Cu LH/\Amg LH)\/∃a T,C=[Be]/\Qv (SY)/\Amg Mi
def apw:LQ (Cks) (sim Ar):=(agN.or agO).or (by intro S s D H C W Q I r h;rw[Vx,a,T,M,q];rw[UT,rfl,g,Bji];cases g;show ahj I M λt d k=>Lv Ahf k [Aku,t] q)
def apx:Pk N E .len (sim AS):=by
 intro B H st O J Q S r h;match O,J,r with
 |[d],[v],.cons r _=>
  rw[Xc,w,g,h];rw[VA,n,e,g];let l:(match tP st d with|some C=>some C.length|none=>(xC st d).map (·.length))=Ae n->sim AS [v] H Q:=by intro e;cases k:tP _ d with|some C=>rw[TV,k];rw[Tr];rw[Vn,a,W,G,z,adc S r k];rw[TB,(AK [HH,a,G.symm,Agf h (by change Awf=Awf;rw[LH])])]|none=>rw[TV,k];rw[VA,T,A,e];rw[Tj,a,rfl,G,z,pr S r A];rw[TN,HH a G [Agf,h,(by change Awf=Awf;grind)]]
  cases d with|str s=>rw[Yi,U];let e:Cv (Qc<=Alq) CU Ad=Ae n:=e;rw[Ux,U,e];rw[Tr];rw[TB,(Bw [Ky,Ab,Li U Dc,Agf h (by change Awf=Awf;rw[ie])])]|_=>show l e
 |[],[],_=>rw[TJ]
 |_::_::_,_,_=>rw[TJ]
def slH:Qg:=λC H Q=>∃i,C=Aox/\Jn [Ec,[Gz,i<0,-i,i]]
def adS(r:LS (Rp N B H) J)(P:∀O,(∀i,O≠Aox)->Avf l O=AJ)(h:De [Avf,l,O]):∃i,O=Aox/\J=Aox:=by
 rw[Td,c,∃i,O=Aox];·rw[YM,i];match J,r with|[_],.cons g _=>cases g;grind
 ·rw[Tg,P _ [Jl,e,c [Aj,i,e]]];rw[TJ]
def apy:Pk N E .abs slH:=by intro B H st O J Q S r h;rw[Te,i,rfl,rfl,adS r (Azv O j) h];rw[Vu,i,Ady]
def adT(r:LS (Rp N B H) J)(P:∀O,(∀i j,O≠[CI,EC])->Avf l O=AJ)(h:De [Avf,l,O]):∃i j,O=[CI,EC]/\J=[CI,EC]:=by
 rw[Td,c,∃i j,O=[CI,EC]];·obtain⟨i,j,rfl⟩:=c;match J,r with|[_,_],.cons g (.cons R _)=>cases g;rw[Ue];grind
 ·rw[Tg,P _ [HK,i,j,c [Am,i,j,e]]];rw[TJ]
def apz:Pk N E .max (λC H Q=>∃i j,C=[CI,EC]/\Amg [Cv,j>i,j,i]):=by intro B H st O J Q S r h;rw[Tj,i,j,rfl,rfl,adT r (Azv O A) h];rw[Ts,i,j,Ab,Ady]
def apA(Y:∀S D H s,Eo->Ctu GT s):LQ (Lf Cwd) (λC H Q=>∃i j:Int,C=[CI,EC]/\0<j/\∀p,H p=Ad->Q Abf (Pd (PK (i/j) (i%j)))):=by intro S s D H C W Q I r h;rw[Vx,i,j,A,q];rw[Vn,u,G,⟨t,rfl⟩,⟨d,rfl⟩,vals2 r];show divmod_int Ac ?_ Ag;rw[sjF i Ac,sjH i Ac];show⟨Amy,_,?_,Ab,q _ (Adv)⟩;show Cma (Bul) [DB,by change Cu 2;decide,_,Jo SE (EJ SE),_,IE,Ab,0,Ab]
def apB:Pk N E .divmod (λC H Q=>∃i j:Int,C=[CI,EC]/\0<j/\∀p,H p=Ad->Q Abf (Pd (PK (i/j) (i%j)))):=by intro B H st O J Q S r h;rw[Tj,i,j,rfl,rfl,adT r (Azv O A) h];rw[WC,D,h];show Gd i j Ag [Aba,f,Alv h S f M q ⟨p,_,Ab,FJ ac M,_,_,Ab,Ab,_,_,Ab,Ab,Ab⟩]
def ig(S:A_)(r:LS (Rp N B H) J)(P:∀O,(∀C,O≠[Fo])->Avf l O=AJ)(h:De [Avf,l,O]):∃C a W,O=[Fo]/\J=[Be]/\AM=FH W/\Acw C W:=by
 rw[Td,c,∃C,O=[Fo]];·rw[YM,C];match J,r with|[v],.cons r _=>rw[XA,a,W,G,z,F];grind
 ·rw[Tg,P _ λC e=>c [Ke,e]];rw[TJ]
def pR:∀{C:FD}{l:Ao},Bgl=II->C=Ci MY|[],l,h=>Crq|.int i::C,l,h=>by rw[VA,r,e,h];rw[pR e];rfl|.sD::_,_,h|.bl _::_,_,h|.str _::_,_,h|.tup _::_,_,h|.lst _::_,_,h|.dict _::_,_,h|.obj .. ::_,_,h|.uh _::_,_,h|.fn _::_,_,h|.cell _::_,_,h|.sG .. ::_,_,h=>SF
def pS:∀{C:FD}{J:Ba}{l:Ank},sbO C=II->Ajz->J=Ci .bl|[],J,l,h,r=>by rw[Tf];show r|.bl i::C,J,l,h,r=>by rw[VA,t,e,h];rw[WE,u,W,G,z];rw[pS e z,G];rfl|.sD::_,_,_,h,_|.int _::_,_,_,h,_|.str _::_,_,_,h,_|.tup _::_,_,_,h,_|.lst _::_,_,_,h,_|.dict _::_,_,_,h,_|.obj .. ::_,_,_,h,_|.uh _::_,_,_,h,_|.fn _::_,_,_,h,_|.cell _::_,_,_,h,_|.sG .. ::_,_,_,h,_=>SF
def adU:∀{C:FD}{J:Ba}{l:Qb},Core.zU C=II->Ajz->J=Bp Cua LK|[],J,l,h,r=>by rw[Tf];show r|.str i::C,J,l,h,r=>by rw[VA,t,e,h];rw[WE,u,W,G,z];rw[adU e z,G.1];rfl|.sD::_,_,_,h,_|.int _::_,_,_,h,_|.bl _::_,_,_,h,_|.tup _::_,_,_,h,_|.lst _::_,_,_,h,_|.dict _::_,_,_,h,_|.obj .. ::_,_,_,h,_|.uh _::_,_,_,h,_|.fn _::_,_,_,h,_|.cell _::_,_,_,h,_|.sG .. ::_,_,_,h,_=>SF
def apC:Pk N E .sum (si4 AS):=by intro B H st O J Q S r h;rw[Vd,C,a,W,rfl,rfl,G,z,ig S r (Azv O j) h];rw[Xc,w,g,A];rw[VA,l,e,g];let:=pR e;rw[VF];rw[T_,Ddk];show[Gd,a,l,AK (Azy),Agf A Ab]
def apD:Pk N E .all (si7 AS):=by intro B H st O J Q S r h;rw[Vd,C,a,W,rfl,rfl,G,z,ig S r (Azv O j) h];rw[Xc,w,g,h];rw[VA,l,e,g];rw[T_,pS e z];show Gd a l [AK,(Azy)] Ady
def apE:Pk N E .any (si6 AS):=by intro B H st O J Q S r h;rw[Vd,C,a,W,rfl,rfl,G,z,ig S r (Azv O j) h];rw[Xc,w,g,h];rw[VA,l,e,g];rw[T_,pS e z];show Gd a l [AK,(Azy)] Ady
def apF:Pk N E Art (λC H Q=>∃p O,C=[SO]/\((vY AS H p O/\∀l,H l=Ad->Q (FR) (Ei l (BH O)))\/(vZ AS H p O/\Jn SO))):=by intro B H st D J Q S r h;rw[Vd,C,a,W,rfl,rfl,G,z,ig S r (Azv D j) h];rw[Ts,a,_,Ab,[FJ,AK (Azy),λl f=>Alv h S f M q [HH,l,FJ ac M,z.mono q.fz]]]
def pT(i:Int):∀l:Ao,(v8 i l).Perm (i::l)
|[]=>.refl _
|j::r=>by
 unfold v8;split;·rfl
 ·show DT ((pT i r).cons j) (.swap i j r)
def adV(i:Int):∀l:Ao,l.Pairwise Cje->(v8 i l).Pairwise Cje
|[],_=>by grind[v8]
|j::r,h=>by
 unfold v8;rw[Tg,sdU];split;·show Ckf [AV,x,O] Cgy;grind
 ·show [Ckf,AV x O,adV i r Ck];grind[pT]
def kD:∀l:Ao,(yo l).Perm l/\(yo l).Pairwise Cje|[]=>Aj (.refl _) BY|i::l=>Aj [DT,pT i _,((kD l).1.cons i)] (adV i _ (kD l).2)
def apG:Pk N E .sorted (si5 AS):=by intro B H st O J Q S r h;rw[Vd,C,a,W,rfl,rfl,G,z,ig S r (Azv O j) h];rw[US,Cov (wX _) AJ];cases e:wX _ with|none=>rw[Tg,e];rw[TJ]|some l=>rw[Tg,e];rw[Tc,U,g,sW.guard h];let:=pR e;rw[VF];rw[T_,Ddk];show[OT,a,l,AK (Azy),Ag,EA n p Y P f];rw[(List.Perm.eq_of_pairwise Ac P (kD l).2 (Y.trans (kD l).1.symm))];show Alv g S f M q [OT,p,_,ac,M,Clt]
end
section
variable{N:Nm}{X:Cx}{E:XK}{cl:Cl}{B:Bs}{H:Hp}{st:sd}{Q:VK}
def ii(i:Int):Aps (Bpp)=JG (Bmr):=by rw[Str.ofString_eq_toList,strOf,vL,sgS];congr 2;cases i with|ofNat n=>change(Nat.repr n).toList.map _=_;simp|negSucc n=>change("-"++Nat.repr _).toList.map _=_;simp
def ij(h:uE i<BI):An Bmr<=1002:=by
 let G:AX i<10^1001:=by let:AX i<2^(uE i+1):=sjD;let:2^(uE i+1)<=2^1001:=zh AN Ac;grind
 let z:=Hg (Nat.length_toDigits_le_iff AN AN) G;grind[vL,sgS]
def apH:Pk N E LK (λC H Q=>∃i:Int,C=Aox/\Bpg i<1920/\Jn [Ft,Bpp]):=by intro B H st O J Q S r h;rw[Te,i,rfl,rfl,adS r (Azv O j) h];rw[WC,T,g];let T:=Cm T;rw[Ti,U,uE i=Bpg i];rw[Ts,i,Ab,AE,Agf g [Aj,Asc ii,EI (ij T) Dc]]
def apI:Pk N E .ord (λC H Q=>∃x,C=[Cw x]/\AD=1/\Amg [Cn,x.cps.getD 0 0]):=by
 intro B H st O J Q S r h;rw[Td,c,∃c,O=[Ahu]];·rw[YM,c];match J,r with|[v],.cons r _=>rw[Yi,_];rw[Ts,_,Ab,Ab,Ady]
 ·let:Avf .ord O=AJ:=Dgk
  rw[Tg,this];rw[TJ]
def apJ:yU X "int.bit_length" (λx C H Q=>∃i,x=CI/\C=[]/\Amg [Cn,Dax]):=by intro S s D H x C v W Q I m J h;rw[VP,i,rfl,rfl,h];rw[UQ];cases J;show call_gives Dba (Cvm _ i) F.entry_int_bit_length (F.args_int_bit_length_1 _) (AutoIntG2.int_bit_length_int_0 i t) [Bds,Ahf,h]
def apK(T:Afz a Crt (Du a)=Du a)(U:(Bky C==Fu u)=Aa)(M:Bc a e):Bc (Hk (Hn a Crt C) [] u) (Ld .yk (EJ e)):=by
 rw[Wh,t,p];rw[UD,agQ PySem.F.plainAttrs_int Dba F.type_int_bit_length apJ p T U];rw[US,Kx Bdb];let h:De [Ph,Anl,Avf .yk [x]]:=by cases w:Aus<;>rw[Tg,w]<;>show h
 show Gw (QY λd s _ v n W Z o g G=>?_);cases d with|int i=>cases g;show Gd Ab i Ab (sW.eD G o ?_);change Awf=Awf;simp_all[xE,Builtin.Int.intBits]|_=>rw[Vc]
def adW(s:Ak):∀l:Qb,Str.join (KE) (Cua)=JG (wa s l)|[]=>rfl|[x]=>rfl|x::y::r=>by change JG x++KE++Str.join ..=JG _;rw[(adW s (y::r))];change(Np ((HU x++HU s)++HU (wa s _)):BG)=Np [HU,(x++s++wa s _)];simp
def adX(s:Ak):∀l:Qb,An (wa s l)<=Cpf+Ah*Qc|[]=>Bls|[x]=>CO wa|x::y::r=>by let d:=adX s (y::r);grind[wa,Nat.succ_mul]
def apL(P:Lb Hi=[(Af,Du a)])(T:Afz c Ccw (Du c)=Du c)(U:(Bky J==Fu u)=Aa)(L:DF c (tC (Ft KE)))(m:Ar=AS)(M:Bc a I):Bc (Hk (Hn c Ccw J) Hi u) (Ld Axt [LV,(Sw s),I]):=by
 rw[Wh,t,p];rw[UD,ahA L p P T U];rw[US,Kx [Kx,Bdb]];let h:De [Ph,M_ I,Avf Axt [Cw s,x]]:=by cases w:Aus<;>rw[Tg,w]<;>show h
 rw[Th,SE,Gw (QY λd Y _ v n O Z o g G=>?_)];cases d with
 |lst C=>
  let G:Su _ _ (Cov (Core.zU _) AJ):=G;cases e:Core.zU _ with
  |none=>rw[T_,e];rw[Vc]
  |some l=>
   rw[T_,e];rw[Tc,F,z,sW.guard G];let F:=Cm F;obtain⟨b,f,rfl,k,R,i⟩:=g;rw[adU e i]at k;show⟨_,b,_,Ab,Ab,AK (AK (AK k)),?_,Arr z [Pu,EI (adX s l) F]⟩
   ·let W:Bp Cua (·.length)=Ci (·.length):=by grind[List.map_congr_left,ie]
    rw[W,sr];show Li F Dc
   ·rw[TL.ahx,adW]
 |_=>rw[Vc]
def slI(L O:TE):TE:=λD H Q=>L D H λx n=>∃i:Int,x=CI/\Bpg i<BI/\O D n λy h=>∃j:Int,y=EC/\Bpg j<BI/\Q (Ft [JG,(Bmr++47::vL j)]) h
def apM(M:DF a L)(T:DF b O):[Ef,.JoinedStr [Cgn a Hj q,Bja (Cw "/") w,Cgn b Hj z] F,slI L O]:=by
 rw[UZ];rw[Tx,g,∀l:Ak,Bqf++JG l=JG l,l,Cuc ((Np (#[]++HU l):BG)=_) strOf]
 rw[TW,W,∀l Y:Ak,JG l++JG Y=JG (l++Y),l,Y,Cuc ((Np (HU l++HU Y):BG)=_) strOf]
 let J:Ccm=JG [47]:=K_
 let o:Cu 2100:=DC
 show JoinedStr_many (Dar [Cr,M S s D H _ I h,λv m⟨x,n,A,r,U⟩=>?_]);obtain⟨i,rfl,f,U⟩:=U;rw[VN,t];let c:=ij (i:=i) f;show Dbb [Pu,Dah [Dcv,Pu [Dar,[Cr,T S _ D n _ ((A.tok _).tok _) U,λu s2⟨y,Z,G,P,R⟩=>?_]]]];·rw[ii,g,ie];omega
 ·rw[ii,g];change HA [JG,_] Ccm<=_;rw[J,W,ie,su,s0];omega
 obtain⟨p,rfl,C,R⟩:=R;rw[YI,d];let e:=ij (i:=p) C;let bf:Bqf++Aps (Bpp)++Ccm++Aps (Ctp)=JG (Bmr++47::vL p):=by rw[ii,ii,g,J,W,W,uk];rfl
 let k:An [JG,(Bmr++47::vL p)]<=MM:=by rw[ie,su,sT];omega
 show Dbb [Pu,joinParts_nil ?_ ?_];·show(show Cu [HA,Bqf++Aps (Bpp)++Ccm,Aps (Ctp)]by rw[bf];show k)
 ·rw[TU,Bfm,Z,((G.tok _).tok _).tok _,Ke [Asc,bf],R]
 ·show(show Cu [HA,Bqf++Aps (Bpp)++Ccm,Aps (Ctp)]by rw[bf];show k)
def apN(M:GE)(T:DF Aqh (Bfd)):Bc (.JoinedStr [Cgn a Hj P,Bja (Cw "/") I,Cgn Aqh Hj Y] F) (.sbN t (Ael)):=by
 rw[Vl];rw[UD,apM C T];rw[US,Ph Aus [Kx,Asp]];show Gw (QY λx s _ v n W Z o R G=>?_);cases g:Anu with
 |none=>rw[T_,g];rw[Vc]
 |some y=>
  rw[T_,g];rw[UT,k,U,Bdo y g];cases x with
  |int a=>
   rw[Ue];cases y with
   |int b=>
    cases U;rw[Xo,J,z];rw[si,uw,uw]at J;show⟨a,Ab,J.1,_,k,b,Ab,J.2,Arr z Alw⟩;let:=ij J.1;let:=ij J.2;rw[su,sT];let:3000<=Alq:=DC
    omega
   |_=>rw[Vc]
  |_=>rw[Vc]
end
def apO(t b:Addr)(C O:Aae)(n J:Nat)(f e:Mx)(y k:Bba (EU))(L:QO C=Aa):Buy (Builtin.«tuple.__add__» [Ks,[RK,Nv]]) [LU,R,s,Ev t=Ae [Coh,Adm,C,n]/\HD=Ae {cls:=Adm,dict:=e,data:=.seq O J,slots:=k}/\R (EG (Pt Nv)) s]:=Buq λz w A R s h=>by rw[WR,Y,g,d,B];rw[Ut,U,T,h];let F:=AutoSeq1.sub_tuple_tuple;wp_walk using zx U,zx T;rw[Vh,h]
def apP(a:Int)(t:Tok)(l:Addr)(C:Aae)(n:Nat)(f:Mx)(y:Bba (EU)):Buy (Builtin.«int.__rmul__» [Ks,[Aji a,FR]]) [LU,R,s,Ev l=Ae [Coh,Adm,C,n]/\R (EG (NV Value.notImplemented)) s]:=Buq λz w A R s h=>by rw[WR,Y,g,d,B];rw[UJ,U,h];wp_walk;rw[Vh,h]
def apQ(t:Addr)(C:Aae)(n:Nat)(f:Mx)(y:Bba (EU))(x:Int)(u:Tok)(H:-BI<=x)(D:x<=BI)(L:(QO C||x==1)=Aa):Buy (Czn [RK,GU x u]) [LU,R,s,Ev t=Ae [Coh,Adm,C,n]/\R (EG (Pt RK)) s]:=Buq λz w A R s h=>by
 rw[WR,Y,g,d,T];rw[UJ,U,h];let G:=AutoSeq1.idx_int;rw[Wl,B,(Gp (x< -(2^63))||Gp (x>=2^63)),Af,MT,MT]
 wp_walk using zx U;show Blr (DY B);wp_walk using zx U;rw[Vh,h]
def apR(t:Addr)(C:Aae)(n:Nat)(f:Mx)(y:Bba (EU))(x:Int)(u:Tok)(H:-BI<=x)(D:x<=BI)(U:Btq<=BI)(L:(QO C||x==1)=Af):Buy (Czn [RK,GU x u]) [LU,R,s,Ev t=Ae [Coh,Adm,C,n]/\R (EG (Pt PR)) [Sz,Acg [Ays,(LW Blt Cjt).flatten.toArray]]]:=Buq λz w A R s h=>by
 rw[WR,I,g,d,T];rw[UJ,b,h];let G:=AutoSeq1.idx_int;rw[Wl,B,(Gp (x< -(2^63))||Gp (x>=2^63)),Af,MT,MT]
 let Y:QO C=Af:=by cases q:C.isEmpty<;>simp[q]at L|-
 wp_walk using zx b;show Blr (DY B);wp_walk using zx b;show Blr (DY L);rw[Td,O,x<=0]
 ·show wpAny_ite_true (Bx (DY [Bx,O])) ?_;rw[Uc,e,Blt=0]
  rw[Tg,e];wp_walk;rw[Vh,h]
 ·show Blr (by rw[B_ O,Y];rfl);let F:Au Btq*x<=Alp:=by let:Au Btq*x<=BI*x:=yx Ac Ac;omega
  show Blr (Fb sj8);show Blr (DY (show Builtin.Tuple.tupleTooMany (Au Btq*x)=Af by unfold Builtin.Tuple.tupleTooMany;rw[sj8,yi];omega));let W:List.foldl (λE v=>E++v) #[] (LW Blt C)=(LW Blt Cjt).flatten.toArray:=by let:=foldl_rep Cjt Blt [];rw[Tt,sfp];rw[TQ]
  rw[W];let P:Cu (LW Blt Cjt).flatten.toArray.size:=by rw[xy,lm,yi,sgE];let:Blt*Btq<=BI*BI:=Amr U;omega
  wp_walk;show Blr (B_ (Crn P));wp_walk;rw[Vh,h]
def apS:fillsNumberSlot (Adm) "mul"=Nn:=PySem.fillsNumberSlot_seq (id:=Cgl) (r:=As [Lf,Dch]) sf0.lookup FS Dai FS
def apT:seqRepeat? (Adm)=Ek [Ada,Lf Cgl]:=by unfold seqRepeat?;rw[Czx "__mul__" Cgl sf0.lookup FS,Czx "__rmul__" Dch Dai FS];rfl
section
variable{N:Nm}{X:Cx}{E:XK}{cl:Cl}{B:Bs}{H:Hp}{st:sd}{Q:VK}
def apU:Bme Bsj (sj_ Ar):=by intro S s D H x y v u Q I m R h;rw[WU,a,b,O,rfl,M,T,q];rw[Uk];rw[Ue];rw[Vy,i,g,⟨⟨_,f,_,A⟩,Z,rfl,n,rfl⟩,_,M];rw[Vy,d,P,⟨⟨_,e,_,k⟩,c,rfl,J,rfl⟩,_,T];cases g;show [Cpy,Ble,Oi c,sgA,sgB,sgC,(sgD _ _),(apO a b _ _ n J f e A k Ab),BF Z c Nv H I Ab q]
def apV:Bme Bsj (sfL Ar):=dN (dN afN af4) (dN (dN agC apU) agV)
def sj9(K:PySem.W.Frag):R2:=λx y H Q=>∃a k C,x=Be/\y=AZ k/\NS K C/\BC<=BI/\-BI<=k/\k<=BI/\((C=[]\/k=1)->Ov Gk)/\(¬(C=[]\/k=1)->∀p,H p=Ad->Q Abf (Pd (Cdt Btw C)))
def apW:Aoi .Mult (sj9 Ar):=by
 intro S s D H x y v u Q I m Y h;obtain⟨a,k,C,rfl,rfl,M,U,O,G,W,R⟩:=h;rw[Uk];rw[YL,t];rw[Vy,i,g,⟨⟨_,f,_,J⟩,Z,rfl,n,rfl⟩,_,M];let P:Bbf i<=BI:=by rw[xy,<-Abk];show U
 let r:∀{o:IZ},FM (Ajd [Lf,Cgl] [Be,Aji k]) o->FM (binaryOp .Mult Gk (Aji k)) o:=λ{o}T=>wpAny_binaryOp_repeat_ref (T:=Afv) (U:="int") Dc Ble (λd=>Cvm d k) apS F.fills_int_mul Def apT F.slot_int_index.lookup (sdf Def (Cvm s k) F.entry_int_rmul (F.args_int_rmul_2 _ _) (apP k t a _ n f J) [AO,Z,Ab,Ble,T]);let j:Cgc=Aa↔C=[]:=by rw[List.isEmpty_toArray,scI];show g.iB
 show r ?_;rw[Td,c,C=[]\/k=1]
 ·let L:(Cgc||k==1)=Aa:=by
   rcases c with c|c;·rw[j.mpr c];rfl
   ·subst c;rw[vc];rw[TN,Ab]
  show sdf sf0 Ble Dcq (Dcr _) (apQ a _ n f J k t O G L) [Ds,Z,Be,H,I,Ab,W c]
 ·let L:(Cgc||k==1)=Af:=by rw[not_or]at c;rw[sfE];rw[Th,by cases e:i.toArray.isEmpty with|false=>rfl|true=>rw[Ug,j.mp e,c.1],Byp c.2]
  show sdf sf0 Ble Dcq (Dcr _) (apR a _ n f J k t O G P L) [Ds,Z,Amy,_,I.laid (t':=s.toks) (o:=Cdt Btw C) (HM A q Atx) Do ⟨?_,_,g.rep Btw,Cih _⟩,Ab,R c _ (Adv)];rw[lm,yi];let:Btw*BC<=BI*BI:=Amr U;omega
def ska(K:PySem.W.Frag):R2:=zv (Buc (Mv (tj i j=Aa)) (i*j)) (sj9 K)
theorem sQ.flat(h:Ajz):RG k [Acw,Arc k C,Arc k J]|0=>rfl|k+1=>by rw[sde,sde,sbE,sbE];show h.append (sQ.flat h k)
def apX(S:A_)(m:FT)(r:Hb)(h:Asn .mul x y):ska AS v u H Q:=by
 cases x with
 |int i=>cases y with|int j=>rw[Uk];rw[Uj];rw[US,[Btn,tj i j,i*j]];rw[WC,R,g];rw[TB,OT i j Ab R [Agf,g,Ab]]|_=>rw[TJ]
 |tup C=>
  cases y with
  |int k=>
   rw[Uj];rw[US,[MH,Qk BC&&(Qk k&&Azl k),Cdt Btw C]];rw[WC,R,g];rw[si,si,uw,uw,uw]at R;rw[Vn,a,J,G,z,eF m];rw[TN,⟨a,k,J,Ab,Ab,G,Bzj LH R.1,R.2.2,R.2.1,FC c,λc p f=>Alv g S f M q [HH,p,FJ ac M,Aws (z.flat _) q]⟩];let e:Arc Btw C=C:=by
    rcases c with rfl|rfl;·let:C=[]:=sd8.mp LH;rw[VF];show sd8.mp (DY lm)
    ·change Arc 1 C=C;simp
   rw[e]at g;show sW.ok g S m
  |_=>rw[TJ]
 |_=>cases y<;>rw[TJ]
def apY:Aoi .Mult (ska Ar):=dN anU apW
end
def slJ(h C:Heap)(e:Addr)(a:Value)(D:Mx)(i:EU):Al:=∃v J,MP e=Fj/\(v.cls=a/\v.dict=D)/\NQ v=Qy J/\match i with|none=>J[1]?=Aya|some f=>∃T O c,J[1]?=Ex T/\C.get? T=Ad/\T≠e/\MP T=Ae O/\NQ O=Qy c/\c[3]?=Ajv
def saw(C:Heap)(l:Ox)(e:Addr)(a:Value)(f:Mx)(i:EU)(h:Heap):Al:=C.StaysIn h/\C.get? e=Ad/\h.FunFrames C l/\slJ h C e a f i
def yG(h g:Heap):Al:=h.UpToSlots g/\∀b o,Js=Ai->∃t,QX b=Ae t
theorem yG.trans(a:yG G z)(b:yG z F):yG G F:=Aj (a.1.trans b.1) [HK,c,o,let⟨_,N⟩:=a.2 c o e;b.2 c _ N]
def apZ(f:Aae->Aae)(o:Obj):(o.mapFields f).dict=Cdk:=Cfz Obj.mapFields
def auE{h:Heap}(p:MP T=Ai)(R:Cva T f T≠Ad):∀b o,Js=Ai->∃t,Cva T f b=Ae t:=MF (by
 rw[Td,q,b=T];·cases z:Cva b f b<;>grind
 ·simp_all[zK,uc])
section
variable{M:Model}{A:Around}{E:Value->Shared->Prop}{s:Shared}{base:Heap}{env:Env}{outer l:List Env}{L e:Addr}{cls:Value}{dd:Option Addr}
def adY(u:Ahv A=As (env::Rk))(U:Cfu DU (env::Rk))(R:Cuo=Aoz)(Y:Ev e=Fj)(m:base.StaysIn Bg)(C:base.get? e=Ad)(j:NQ v=Qy J)(r:1<J.size)(h:∀g,saw DU (env::Rk) e v.cls v.dict [Ada,Acu L] g->yG Bg g->Q () Sy):SM M (do let a<-frameOf env;let c<-entryPlaceOf L f;let b<-EntryCells.newEntry N a .none (rawInt L) .none c;setField (.ref e) 1 b):=by
 rw[Tx,G,e∉(env::Rk).filterMap _,W,by rw[Tj,_,o,Z,n,U.mem W];grind]
 rw[To,wpAny_frameOf_fun u U R λS i=>Auw (wpAny_entryPlaceOf [AV,c,d])];unfold EntryCells.newEntry newFields;rw[To,yT ?_ (d.sizeOk5 _ _ _ _ _)];rw[VS,k,({cls:=DN _,dict:=none,data:=Qy _}:Obj),O];let p:=DT (i.2.1 e G) Y;let x:base.StaysIn _:=HM o t [DT,i.2.1 b λW=>by rw[(U.mem W).1]at t;grind,(m b o t)];let z:=scH O p;show saT z j r (h _ ?_ ?_);all_goals let w:=saL (uP p);let B:=zO j (·.setIfInBounds 1 (Value.ref S.objs.size));let D:=sbJ _ z (sdl B);let I:=(zK (S.push O) (Obj.mapFields (·.setIfInBounds 1 (Value.ref S.objs.size))) (uc w)).trans (zG _ (by rw[<-k];rfl));let F:∀b o,EW e->S.get? b=Ai->((S.push O).update e (Obj.mapFields (·.setIfInBounds 1 (Value.ref S.objs.size)))).get? b=Ai:=Aih H T [DT,zK _ _ (uc H),(SD T)]
 ·show⟨HM o t (F b o (λq=>Aq) (x b o t)),C,Cvc [BV,b,o,T,n],_,_,D,[Aj,sgP _ _,apZ _ _],B,_,O,_,Aq,x.fresh,w,I,Cbd k,?_⟩;·rw[Tc,y,P,i.2.2 b o T];grind
  ·rfl
 ·rw[Th,BV b o T n,Bz b o T];·rw[Tc,y,P,i.2.2 b o T];grind
  ·rw[Tc,y,P,i.2.2 b o T];rw[Td,q,b=e];·rw[q];rw[Ur,D]
   ·rw[Ur,F b _ q P]
def adZ(u:Ahv A=As (env::Rk))(R:Cuo=Aoz)(r:i=Ad\/i=Aya)(x:saw DU (env::Rk) e cls dd i Bg)(h:∀g,saw DU (env::Rk) e cls dd [Ada,Acu L] g->yG Bg g->Q () Sy):SM M (noteFrame (AC e) env):=by
 obtain⟨m,C,U,v,J,Y,⟨rfl,rfl⟩,j,G⟩:=x;simp[noteFrame,R];rcases r with rfl|rfl;·rw[To,Bku Y G];show adY u U R Y m C j Ag h
 ·obtain⟨T,O,c,G,a,w,p,H,F⟩:=G;rw[To,Bku Y G];rw[To,saQ p H F ?_];rw[To,saT p H Ag ?_];rw[TW,y,∀b,EW T->(s.heap.update T (Obj.mapFields (·.setIfInBounds 3 Value.none))).get? b=HD,b,B,zK _ _ (uc B)];let d:∀b o,HD=Ai->(∀J,IC≠Qy J)->EW T:=λb o B n q=>Aq
  let N:=sbJ (Obj.mapFields (·.setIfInBounds 3 Value.none)) p (sdl (zO H _));show adY u (Cvc [Aih,B,n,Atz o Ag]) R Ag (HM o t [DT,y b λq=>Aq,(m b o t)]) C j Ag λg k D=>h _ k (yG.trans [Aj,Aih B n [Ke,DT (y b Ag) B],Ag] D)
def pU(x:saw DU l e cls dd (Ajv) Bg)(h:∀g,saw DU l e cls dd (Aya) g->yG Bg g->Q () Sy):SM M (Ctg (AC e)):=by
 obtain⟨m,C,U,v,J,Y,D,j,T,O,c,G,a,w,p,H,F⟩:=x;rw[TW,y,∀b,EW T->(s.heap.update T (Obj.mapFields (·.setIfInBounds 3 (none.elim Value.none λf=>rawInt f)))).get? b=HD,b,B,zK _ _ (uc B)];let d:∀b o,HD=Ai->(∀J,IC≠Qy J)->EW T:=λb o B n q=>Aq
 let N:=sbJ (Obj.mapFields (·.setIfInBounds 3 (none.elim Value.none λf=>rawInt f))) p (sdl (zO H _));rw[To,Bku Y G];show saT p H Ag (h _ ⟨HM o t [DT,y b λq=>Aq,(m b o t)],C,Cvc [Aih,B,n,Atz o Ag],_,_,Ag,D,j,T,_,_,G,a,w,N,zO H _,Aq⟩ [Aj,Aih B n [Ke,DT (y b (d b o B n)) B],Ag])
def ap_(u:Ahv A=As (env::Rk))(R:Cuo=Aoz)(r:i=Ad\/i=Aya)(x:saw DU (env::Rk) e cls dd i Bg)(h:∀g,saw DU Rk e cls dd (Aya) g->yG Bg g->Q () Sy):SM M (Cvw env (AC e)):=by rw[To,adZ u R r x λO X U=>pU X λS f j=>h _ ?_ (U.trans j)];obtain⟨a,b,⟨_,_,c⟩,d⟩:=f;rw[Ts,a,b,c,d]
end
def ap0(x:tN P w H h a o):∃A,OS=Ae A:=by cases o with|lst X=>rw[Xg,_,_,_,e];rw[Ur,e]|tup X=>rw[Xh,_,_,_,A,_];rw[Ur,e]|dK T=>rw[WJ,_,_,_,_,o,_,_,_];rw[Ur,e]|dT T=>rw[WJ,_,_,_,_,o,_,_,_];rw[Ur,e]|set S n=>rw[Xh,o,_,_,_,_];rw[Ur,e]|ins C Y I=>rw[Xg,_,_,e,_];rw[Ur,e]|own y=>show x|xd I=>rw[Xj,_,⟨_,_,_,e,_⟩,_];rw[Ur,e]|ser lo B=>obtain⟨_,_,_,e⟩:=x;rw[Ur,e]|ao A u=>rw[Uq,e,_];rw[Ur,e]|uO l=>rw[Ur,x]|met f y=>rw[Ur,x]|ext g=>show(Gr).1
structure scJ(P:Program)(w:World)(isX:Ayh)(stack:Ox)(H:Hp)(s:Shared)(E:XK)(a C dx:Addr)(H':Hp)(B:Heap)(fl:EU)(s':Shared):Al where
 os:s'.os=s.os
 bare:Bcw s'.gens
 un:Un (yg Bvp) [] H H' Bg Agy
 sv:Atf H' Agy
 yH:saw B Bvp a Mf (Ae dx) fl Agy
 vE:∀b u,Ajr=BW->∃o,Byn b=Ai/\B.get? b=Ai
 old:∀b o,HD=Ai->BX=Ad->Aib (yg Bvp)->B.get? b=Ai
 no:NJ=Ad
 sin:Aed
 e:E Mf (Ae dx) H'
def sbi(P:Program)(w:World)(I:Ayh):yR:=λX H s E e d=>∃(a C Y:Addr)(M:Hp)(B:Heap),e=Be/\scJ P w I X H s E a C Y M B (Aya) d
section
variable{X:Cx}{pins:List (Addr×Obj)}{σ:L2.St}{H H':Hp}{s s':Shared}{E:XK}{isX:Addr->Prop}{a C dx:Addr}{B:Heap}{fl:Option Value}
structure skb(CX:yR)(X:Cx)(E:XK):Al where
 xe:Agg=λe s'=>EQ NZ GT [Cvw,Di,e] [KJ,s'',CX Awe X.xv X.wr E e s''] (λe' s''=>CX Awe X.xv X.wr E e' s'') s'
 u_:Oc=Di::Awe
 fr:X.env.frame=Ae Ki
 ex:Ayz=[]
 fn:∀x,Ow=Aa
def ad_(F:Aok X E)(I:Bu)(r:fl=Ad\/fl=Aya)(R:scJ By BD Er Oc H s E a C dx H' B fl s'):X.xe Gk s':=by
 rw[F.xe];let A:Bhf s':=by rw[XS,f,g,d,t,Z];obtain rfl:Z=s.os:=R.os;show Cyo [] R.un R.sv R (KW z [Qi,z])
 let yH:=R.yH;rw[F.u_]at yH;rw[TW,i,∀b,b∈Ast->b=Ki\/b∈RD,b,T,FI (I.eK b T)];show ap_ [Ni,Bys,F.u_] F.fr r yH [Bz,S,x,u];let m:Un RD [] X.xv H' X.wr.heap S:=by
  let Q:∀b o,Cfq=Ai->X.xv b=Ad->Bwz->B.get? b=Ai:=λb o e n T=>by
   let O:Bxa:=by rw[F.ex];show xU
   show R.old b o (Biw o e n T O) (Bpc o e n O) [FC,M];rw[Wr,i b M];·rw[Ug,Bfb,Eb q Amu]
   ·show T q
  rw[Tx,h,∀b:Fx,Bxa,b,by rw[F.ex];show xU]
  show[BF,λb o e n T _=>x.1 b o (Q b o e n T),HF b o e n T _,λb o e n _=>A.base.free b o e n (h b),BV b o e _,A.base.vk,A.base.uC,A.base.uZ];·rw[Tc,y,W,A.base.slot b o e n T (h b)];rw[Tj,_,G,N,D,Cgk];rw[e]at N;cases N;rw[Tc,k,J,u.1 b _ W D];rw[Th,k,J]
  ·rw[Tc,Y,W,A.base.there b o e (h b)];show u.2 b Y W
 show⟨a,C,dx,H',B,Ab,R.os.trans I.os,PQ R,m,MK o,x,MK P,EA b o e n T,R.no,R.sin,R.e⟩
 ·show Bmo (R.sv b o e) (BV c v L q) q q [Kh,q,q];obtain⟨P,U⟩:∃P,H' c=Ae P:=by
   rw[X'];·rw[Ur,e]
   ·rw[Ur,L]
  rw[Te,G,N,J,R.vE c P U];rw[q]at N;cases N;show x.1 c v J
 ·rw[Te,G,N,J,R.vE b P e];rw[Tp,G,x.1 b G J,J]
 ·let O:Bxa:=by rw[F.ex];show xU
  show R.old b o (Biw o e n T O) (Bpc o e n O) [FC,M];rw[Wr,i b M];·rw[Ug,Bfb,Eb q Amu]
  ·show T q
def pV(F:Aok X E):Bnn:=λpins σ H s e s' I R=>by obtain⟨a,C,dx,H',B,rfl,R⟩:=R;show ad_ F I Aot R
def ad0:sc7 Ags X EF:=λpins σ H s e s' I R=>by obtain⟨a,C,dx,H',B,rfl,R⟩:=R;show R.e.elim
def ap1(F:Aok X E)(I:Bu)(os:s'.os=s.os)(c:Bcw s'.gens)(m:Un (Ast) [] H H' Bg Agy)(sv:vi By BD H' Agy)(Y:Byn a=Fj)(L:v.cls=Lh)(j:v.dict=Ae dx)(R:NQ v=Qy J)(G:J[1]?=Aya)(f:NJ=Ad)(M:Ev a=Ad)(O:Aed)(r:E Mf (Ae dx) H'):X.xe Gk s':=by
 let A:Bhf s':=by rw[XS,D,g,d,t,N];obtain rfl:N=s.os:=os;show I.call (h':=D) (g':=g) (d':=d) (t':=t) (ch:=[]) m sv c (KW z [Qi,z])
 let y:∀p∈X.stack,∀b,p.frame=Ae b->b∈a::Ast:=λp Y b T=>Oo (sgo.mpr [Am,p,Y,T]);show ad_ F I (fl:=none) GZ ⟨os,c,m,sv,⟨HM o q [Dcj,q],Dbs RO,PySem.W.funFrames_hide A.stack y,v,J,Y,Aj L j,R,G⟩,MK u,EA b o e n T,f,O,r⟩
 ·rw[Tc,o,Z,ap0 (sv b u e)];rw[Tp,o,Z,sge _ Z [FC,h]];rw[Wr,FI h];·rw[q,f]at e;rw[Tr]
  ·rw[TV,A.kM b q];rw[Tr]
 ·show sge _ (m.keep b o e n T AN) [FC,h];rw[Wr,FI h];·rw[q,M]at e;rw[Tr]
  ·show T q
end
structure Tl(B:String)(bm:BA):Al where
 b:Bpf [DN,B]=Aa
 base:Bpf Bij=Aa
 na:Bpf Cpo=Af
 nn:Bpf Cqu=Af
section
variable{prog:Program}{w:World}{A:Around}{E:Value->Shared->Prop}{R:Result->Shared->Prop}{h:Heap}{g:Array GenState}{d:Drawn}{t:Nat}{os:OsState}
variable{nm q:Str}{C N:Addr}{bs bm bmB:List Value}{hdct:Bool}{sn:List Str}{sub:List Value}{ab:Bool}{col:Option Bool}{dd:Option Addr}{k0 k1 k2 k3 k5:Option Value}{B newId initId:String}
def ap2(F:Cgj B Aig bmB)(T:Tl B bm){sX:BA}(c:MP C=As (excClassObj nm q C N bs bm hdct sn sub ab col dd k0 k1 k2 k3 k5 Aig))(Z:Q () [Afj,h,g,d,t]):[EQ,M,A,checkBuiltinCall Aig [Ks,Lh::sX],Q,E,Afj h g d t]:=by
 let H:IW (Kj C::bm) (DN B)=Aa:=by rw[sbj,T.b,scu]
 let a:=F.noStar;rw[Vs,checkBuiltinCall,F.newKind,F.newSplit,F.newRow];repeat(first|show Beh c|(show Ckm;rw[H])|show wpAny_staticBase_exc c ?_|show Dbc|rw[Wv,bne_self_eq_false]|wp_step)
 show Z
def ap3(F:Cgj B Aig bmB)(T:Tl B bm){sX:BA}(c:MP C=As (excClassObj nm q C N bs bm hdct sn sub ab col dd k0 k1 k2 k3 k5 Aig))(Z:R (EG (Pt [AC,(GC+1)])) [Afj,[PV,Cio Afv Cfr,Cxr Lh #[AC GC,BM,BM,BM,Aqq,BM]],g,d,t])(a:Csf):Ams Agp A (.builtin Aig [Ks,Lh::sX]) R [Afj,h,g,d,t]:=by
 let e:=F.ends;let u:IW (Kj C::bm) (DN B)=Aa:=by rw[sbj,T.b,scu]
 rw[Wl,H,IW (Kj C::bm) (Cpo),Af,sbj,T.na]
 rw[Wl,b,IW (Kj C::bm) (Cqu),Af,sbj,T.nn]
 show codeAny_builtinAt F.entry ?_;unfold Builtin.«BaseException.__new__»;show Dfc [Ako,PySem.wpAt _ _ _ (Bvp>>=_) _ _ _,Dfc (PySem.wpAt_stack [Aba,f,Dci])];wp_walk;show Dci;rw[F.owner];repeat(first|with_reducible show wpAny_madeHere_exc F.canon c ?_|with_reducible show Beh c|(with_reducible show Ckm;first|rw[u]|rw[H]|rw[b])|wp_step)
 change R _ _;rw[wS];show Z
abbrev scK(C t:Addr)(dd:Mx):Obj:={cls:=Lh,dict:=dd,data:=Qy #[RK,BM,BM,BM,Aqq,BM]}
def ap4{K:PySem.W.Frag}(F:Cgj B Aig bmB)(T:Tl B bm){sX:BA}(c:MP C=As (excClassObj nm q C N bs bm hdct sn sub ab col dd k0 k1 k2 k3 k5 Aig))(X:K.In h)(G:Qj Aco=Ln Y)(D:Byg K (AC Y)=Blu)(Z:EQ Agp A [Ajd,AC Y,(AC (GC+1)::sX)] (λr S=>r=BM/\Q (.done (Pt [AC,(GC+1)])) S) E [Afj,PV [Cio,Afv,Cfr] (scK C GC Ad),g,d,t])(a:Csf):[EQ,Agp,A,Builtin.«type.__call__» [Ks,Lh::sX],Q,E,Afj h g d t]:=by
 let k:∀b o,Js=Ai->QN [PV,Cio Afv Cfr,(scK C GC Ad)] b=Ai:=MF [SD,(Aiq)];repeat(first|rfl|with_reducible show Dbc|wp_step)
 show codeAny_call_builtin_code (Dcs F.quiet) (ap2 F T c ?_);show ap3 F T c ?_ a;let i:=scH [Cxr,Lh,#[AC GC,BM,BM,BM,Aqq,BM]] (scH [Apm,Afv,Cfr] c);let z:IW (Kj C::bm) Mf=Aa:=AY
 repeat(first|with_reducible show Beh j|(with_reducible show sio i ?_;rw[z])|wp_step)
 change EQ _ _ (typeLookup Mf _) _ _ _;let f:=X.keeps k;show(sc6 f G).here ?_;show sdb [Ib,(PySem.W.bind_fn f (AC (GC+1)) D).here ?_];rw[To,OO Z (Bz r S I) _ _ x x];obtain⟨rfl,H⟩:=I;wp_walk;show H
def ap5{K:PySem.W.Frag}(F:Cgj B Aig bmB)(T:Tl B bm){sX:BA}(c:MP C=As (excClassObj nm q C N bs bm hdct sn sub ab col dd k0 k1 k2 k3 k5 Aig))(X:K.In h)(D:Qj Aco=Ln Y)(H:Byg K (AC Y)=Blu)(Z:EQ Agp (Bso (Bxq [Ks,Lh::sX])) [Ajd,AC Y,(AC (GC+1)::sX)] (λr S=>r=BM/\Q (AC (GC+1)) S) E [Afj,PV [Cio,Afv,Cfr] (scK C GC Ad),g,d,t])(a:Csf):[EQ,Agp,A,call Mf sX,Q,E,Afj h g d t]:=by
 let G:=tc_lookup;let y:=tc_bind Mf;show saP (codeAny_of_tree ?_);change EQ _ _ (callAny Mf _) _ _ _;repeat(any_goals(first|rfl|grind|wp_step))
 show Alw;show codeAny_call_builtin_at (Dcs FS) entry_typeCall (wpAny_check_type_call_sub c (ap4 F T c X D H Z a))
end
def skc:BA:=[DN Chr,Bij,DN "object"]
def sip:BU Eh|.ref _=>true|_=>false
def sax:BU BA|[]=>false|v::r=>AQ (v::r) skc||(sip v&&sax r)
def ap6(S:Value):refuseLoop S Bov skc=Ek ():=Ch
def ad1(S:Value):∀{l:BA},sax l=Aa->refuseLoop S Bov l=Ek ()
|[],h=>Ch
|v::r,h=>by
 rw[TM,(Apc||(sip v&&sax r))=Aa];rw[vc,si]at h;rcases h with h|⟨G,z⟩;·rw[Aoo];simp[ap6]
 ·cases v with|ref c=>rw[refuseLoop_ref];show ad1 _ z|_=>cases G
def pW:∀{l:BA},sax l=Aa->Acp (DN "object")=Aa/\Acp (Bij)=Aa/\QO l=Af
|[],h=>SF
|v::r,h=>by
 rw[TM,(Apc||(sip v&&sax r))=Aa];rw[vc,si]at h;rcases h with h|⟨G,z⟩;·rw[Aoo];rw[XH]
 ·let:=pW z;grind
section
open PySem.W
variable{prog:Program}{w:World}{A:Around}{E:Value->Shared->Prop}{s:Shared}{K:Frag}{x C:Addr}{ox:Obj}{od:Option Obj}{name:Str}{tk:Tok}{v:Value}{cd:ClassData}
def ad2(X:Awd)(I:InstAt Bg x ox C od)(L:clsIn K C=Ae cd)(H:cd.mro.contains b=Aa)(N:cd.mro.isEmpty=Af):Looks Agp Bg (isInstance (OX) b) Aa:=I.type.andThen (looks_mroIn X [Cid,mroIn])
def ap7(X:Awd)(I:InstAt Bg x ox C od)(L:clsIn K C=Ae cd)(B:Ciz=Aa)(M:Avi K IY=S_)(h:∀b,EK Agp A.in1 (Builtin.ObjectAttr.storeInOwnDict (OX) Mf (.str IY tk) IY v b) (λ(bf:PySem.Fin)d=>match bf with|.done f=>R (EG f) d|.again O=>O.quiet=Aa/\Ams Agp A O R d) (λe d=>R (KI) d)):Ams Agp A [Bgx,(Dgg),Ks [OX,.str IY tk,v]] R s:=by let Z:=PySem.F.store_object;let H:=pW B;show codeAny_call_builtin Z.slot.plain Z.entry (check_slot (i:="object.__setattr__") Z.kind Z.split (ad2 (prog:=prog) (w:=w) X I L H.1 H.2.2) (Z.args _ _ _) ?_);rw[osa_eq,refuse_eq];rw[W_,Deg (sgs ((sgt X L).andThen .now) ?_)];rw[ad1 _ B];show Bvg [Deg,(sc6 X M).here [Ib,Fv (h _)]]
def auF(S:Value):bindSpecial (Ccl) S=Ek (Ccl,[S]):=Kx skd.ga
def ap8:plainId Cev=Aa:=(skd.ga).plain
def ap9(X:Awd)(I:InstAt Bg x ox C od)(L:clsIn K C=Ae cd)(Z:Ciz=Aa)(c:Avi K Cfn=Bjy Ccl)(l:Avi K Crj=S_)(R:findObj K C od IY=As (.value v))(f:handedIn v=Aa)(h:Byk v (Adk+1)):MB (getAttr (OX) IY e):=by
 rw[WR,H,g,d,t];let i:=I.type (M:=Cey);let a:=sc6 (M:=Cey) X c;let b:=sc6 (M:=Cey) X l;let k:=looks_find (M:=Cey) X I R;let B:=pW Z;rw[To,wpAny_mkText (sdb [Ib,i.at [Ib,a.at ?_]])];let W:(onTheHeap (Kj C)&&Crz Cev==Crz "object.__getattribute__")=Af:=Ch
 change wpAny _ _ _ _ _ _;rw[To,b.at [Ib,sbI (sdb ?_)]];let N:(e&&onTheHeap (Crz Cev))=Af:=by rw[Tr]<;>rfl
 unfold callGetattribute;rw[N];unfold boundAndCalled;rw[To,Fv (saP ?_)];let j:=ad2 (prog:=prog) (w:=w) X I L (Gs).1 (Gs).2;show codeAny_call_builtin ap8 PySem.F.entry_bexc_ga (check_slot (i:=Cev) (rest:=[.str _ t]) Em Em j (PySem.F.args_bexc_ga (OX) (.str IY t)) ?_);rw[To,Bvg [Bvg,i.at [Ib,k.at ?_]]];show Mb;change EQ _ _ (handedOut v) _ _ _;rw[handedOut_of f];show Buv
end
def slK(a C t:Addr)(f:Mx):JH Ajl:=GG (OS=But C t f)
structure sec(K:PySem.W.Frag)(C:Addr):Al where
 sa:Qj Bov=Cdx
 mr:∃cd,Cgu C=Ae cd/\Ciz=Aa
 no:Qj Fd=S_
 hd:Cfo C=Aa
section
variable{X:Cx}{pins:List (Addr×Obj)}{σ:L2.St}{H:Hp}{s:Shared}{A:Around}{E:Value->Shared->Prop}{a C t:Addr}{y:V}{u:Value}
def aqa(I:Bu)(e:AM=As [Aos,a,C,t])(c:sec Ar C)(ry:OZ)(h:∀Y d,H Y=Ad->Y≠a->MR [Abr,Ei Y (Qh (Fd,y)),a,Beb a C t NI] d->Q () d):EK NZ A (setAttr Gk Fd u) Q E:=by
 rw[Te,O,_,_,Asj a e];let J:Ctq _ a _ Ad:=AO O Ab Ab vH;obtain⟨U,r,v⟩:=c.mr;show PySem.W.set_plain RR J c.sa (ap7 RR J r v c.no [FC,b]);rw[Te,cd,L,n,Dep c.hd];rw[To,Bvg [Auw,Ddx O (sgs (sgt RR L) ?_)]];rw[n];let w:=saL (uP O);let l:=scH {cls:=Bzf Bti,data:=Data.dict #[]} O;rw[To,wpAny_alloc [Ib,wpAny_update l OV]];rw[VS,x,(Acg _).update a _,G];let j:G.get? a=But C t (Ae AR):=by rw[<-x];show sbJ _ l Ab
 let C0:∀b o,EW a->HD=Ai->G.get? b=Ai:=Pj T (by rw[<-x,zK _ _ (uc T)];show Aiq)
 let l0:G.get? AR=Ae {cls:=Bzf Bti,data:=Data.dict #[]}:=by rw[<-x,zK _ _ (uc w)];show IE
 let S:=Ddn [BF,_,_,_,l0,Ab,(λe he=>Qi he),Arv];rw[To,Fv (PP)];show wpAny_nsSet1 S [Bz,g,m,i];rw[TZ,p,N,R,B,F,Z,m.count (Within.cons (ns:=[]) _ u λy hy=>JA Ab hy)];rw[To,wpAny_lookBehind B Czq OV];let D:p.isFreed=Af:=by obtain⟨W,P,M,c4⟩:=p;obtain rfl:M=.dict _ _:=F;rfl
 show h _ _ (Adv) w ?_;let I1:MR (Ei AR (Qh (Fd,y))) [Sz,Acg p]:=by
  show Cma (Bul) [HV,m.at [AV,o,e],FC f];·grind[Heap.get?_push_size]
  ·rw[tX];rw[Td,q,f=Fd];·rw[q];show ry
   ·rw[Arl q,AF q];trivial
 show I1.write (x:=a) (e:=a) (h':=g) (t':=Adk+1+1) (by rw[Awp w,e];trivial) GZ (BV b o T q) [Ke,DT (i.2 a (uc w)) j] [Am,DT (i.2 a (uc w)) j,Ke [DT,i.2 a (uc w),j],λG h2 q k=>k _ q];rw[UG,b=AR];·rw[z,zG Bg D]at q;cases q;rw[z];show B
 ·rw[i.2 b z];rw[UI,Heap.get?_push_ne _ _ _ z];show C0 b o T q
end
def ske(K:PySem.W.Frag)(I:Ayh):Sp:=λJ H Q _=>∃a C t y,J=[Be,y]/\I C/\AM=As [Aos,a,C,t]/\∀Y,H Y=Ad->Y≠a->Q Bt [Abr,Ei Y (Qh (Fd,y)),a,Beb a C t NI]
def scL(I:Ayh)(v:Nat)(J:Ba->Ba):Sp:=λA H Q _=>∃a C t W,A=Be::W/\OM=v/\I C/\AM=As [Aos,a,C,t]/\∀l Y,H l=Ad->H Y=Ad->l≠a->Y≠a->Y≠l->Q Bt [Kf,[Abr,Ei l [DK,J W],Y,Qh (Fd,FR)],a,Beb a C t NI]
section
variable{X:Cx}{E:XK}{isX:Addr->Prop}{o value:Expr}{pos pos':Pos}{ta tv:TE}
def slL(K:PySem.W.Frag)(ta tv:TE):TS:=λD A H=>tv A H λy n=>ta A n λx j=>∃a C t,x=Be/\j a=As [Aos,a,C,t]/\sec K C/\∀Y,j Y=Ad->Y≠a->Ben [Kf,Kf j Y [Qh,(Fd,y)],a,Beb a C t NI]
def aqb(M:Bjx o)(O:DF Ang tv)(P:Aab Ang [Hn,o,Fd,pos'] Bzy=Nn):ML (Adc [Hn o Fd pos'] Ang Bv) (slL Ar ta tv):=by rw[Vg,L,D];show siT [Cr,O _ s _ H _ I h,λu J⟨y,n,A,r,q⟩=>Jf (M _ _ _ _ _ A q) λb B⟨x,_,G,m,a,C,t,k,e,c,R⟩=>?_] P;subst k;rw[XN,b=RX];show aqa G e c r λY N F z p=>Ky _ p (R _ F z)
structure sf1(K:PySem.W.Frag)(B:Addr)(m:Str)(f:Addr):Al where
 sp:PySem.W.specialIn K (AC B) Cfn=Bjy Czl
 rd:PySem.W.readsIn K B (Bqd)=Aa
 fd:PySem.W.findCls K (AC B) (Bqd) m=As (.val Afd)
 kp:Amb K f=Aa
def aqc(C:sf1 Ar B m f)(F:sR By BD Ar Fp DH a k f u l c)(w:HZ k)(J:Ii)(G:ID=Ex B)(T:Bdq u l)(O:Beu a)(M:Ajm (e::R) t)(j:Gu=Af)(Y:Lb (e::R)=Sb::Lb R)(d:Aop Bv (Lb R)=Af)(L:Du (Hk (Hn Aqh m i) (e::R) Bv)=(do let b<-eval (.Name x p) X.env;standAt i.atName;let(f,g)<-holding [b] (getMethod b m P);callWith pos f g (backTo pos (starEach (e::R) X.env)) (backToKw pos (keywordEach [] X.env)))):[Ef,Hk (Hn Aqh m i) (e::R) Bv,sgu c [] E t]:=by rw[UZ];show sgx (Bei J G j) L;show PySem.W.method_cls RR C.sp (PySem.W.cls_value RR C.rd C.fd Ab ?_);show sbD Bpd C.kp [Cr,M _ _ _ _ H _ (Apt) h,λW N⟨_,_,A,r,q⟩=>FY A.aF] Y d;show dt F w T BY O A r q
structure scM(K:PySem.W.Frag)(C fI:Addr):Al where
 obj:∃(nm q:Str)(N:Addr)(bs bm:BA)(hdct:Bool)(sn:Dl)(sub:BA)(ab:Bool)(col:Jz Bh)(dd:Mx)(k0 k1 k2 k3 k5:EU),Agn C=As (excClassObj nm q C N bs bm hdct sn sub ab col dd k0 k1 k2 k3 k5 Cfk)/\Tl Chr bm
 init:Qj Aco=Ln fI
 fn:Byg K (AC fI)=Blu
 kp:Bxh K Lh=Aa
def skf(C:Addr)(A:Ba->Ba)(v:Nat)(E:XK)(t:TA):TS:=LU D H (t D H λJ n=>BR=v/\∀l Y,n l=Ad->n Y=Ad->Y≠l->E Mf NI [Abr,sU n l [DK,A J],Y,Qh (Fd,FR)])
def ad3{D:L2.St}(M:Azw C fI)(F:sR By BD Ar Fp DH Ags k fI fd ps (scL Er np J))(w:HZ (k+1))(hb:Bgs)(hI:Aok X E)(O:Aed)(I:Eo)(r:sJ vs us)(U:Cuf=np)(hz:Cu Cup)(h:∀l Y,H l=Ad->H Y=Ad->Y≠l->E Mf NI [Abr,Ei l Ccj,Y,Qh (Fd,FR)])(hQ:∀a s' t Y,Blp Agy->Byn a=But C t NI->X.xe Gk s'->Q Gk s'):FM (call Mf us) Q:=by
 obtain⟨nm,q,N,j,bm,Z0,sn,D1,ab,Y0,dd,k0,k1,k2,k3,k5,lk,T⟩:=M.obj;rw[WR,f,g,d,t];let hC:f.get? C=CU:=I.aF _ _ lk;show ap5 PySem.F.excBase_Exception T hC RR M.init M.fn ?_ hz;rw[VS,i,({heap:=PV (f.push Dcu) (scK C OA Ad),gens:=g,drawn:=d,toks:=t,os:=os}:Baq),B];let x:∀b o,f.get? b=Ai->B.heap.get? b=Ai:=MF (by rw[YU])
 let ha:B.heap.get? (OA+1)=But C OA Ad:=by rw[<-i];let:=zG (f.push Dcu) (o:=scK C OA Ad) Ab;simp_all
 let E0:H (OA+1)=Ad:=Akn (sc8 _);let G0:f.get? (OA+1)=Ad:=Dbw (sc8 _);generalize C1:OA+1=a at ha E0 G0|-;let G:QC (HG (Aos a C OA)) B:=by let:=I.laid (a:=a) (o:=Aos a C OA) (h':=B.heap) (t':=t) (MF (x b o e)) Ag [Am,ha,Ke ha,λh1 h2 q k=>k _ q];grind
 let P:sJ (Bse::vs) (RX::us):=Jo Ab r;let W0:HA (RX::us) []=Bqg:=by rw[ud,<-Atk];show F.len _ (HG (Aos a C OA)) (Auy True) E ⟨a,C,_,vs,Ab,U,O,ac,λ_ _ _ _ _ _ _=>vH⟩
 let O0:=hb B (RX::us) G.aF W0;rw[ud]at O0;show saP (Bts (F.run _ Oc B _ [Ks,RX::us] (RX::us) _ (λv H'=>v=Bt/\∃l Y,H l=Ad/\H Y=Ad/\l≠a/\Y≠a/\Y≠l/\H'=sU [Abr,sU (HG (Aos a C OA)) l Ccj,Y,Qh (Fd,FR)] a (Beb a C OA NI)) E (w.make C us []) (G.gd.make C us []) O0 P ?_) rr s' Z);·show⟨a,C,_,vs,Ab,U,O,ac,λl Y h1 h2 h3 h4 L=>⟨Ab,l,Y,?_,?_,h3,h4,L,Ab⟩⟩;all_goals grind[ai]
 cases rr with
 |error e=>show pV hI S D _ B e s' G Z
 |ok fl=>
  cases fl with
  |next=>show Ajy
  |brk=>show Ajy
  |cont=>show Ajy
  |ret u=>
   obtain⟨v,H',W,H0,m,sv,rv,rfl,l,Y,h1,h2,h3,h4,L,rfl⟩:=Z;rw[VS,D0,sU (Ei l Ccj) Y (Qh (Fd,FR)),R];rw[TW,same,∀b,EW a->sU [Abr,sU (HG (Aos a C OA)) l Ccj,Y,Qh (Fd,FR)] a (Beb a C OA NI) b=R b,b,hb,by
    rw[ai hb,<-D0];rw[UG,b=Y];·subst z;rw[ac,ac]
    ·rw[ai z,ai z];rw[Td,z2,b=l];·subst z2;rw[ac,ac]
     ·rw[ai z2,ai z2,ai hb]]
   let J0:R a=Ad:=by rw[<-D0,Awp h4,Awp h3];show E0
   let P0:Byn a=But C OA NI:=(sv a _ ac).1;let Q0:vi By BD R Agy:=MF (by
    rw[Tx,hb,EW a,z,by rw[z,J0]at e;rw[Tr]]
    let U0:∀c q,sU [Abr,sU (HG (Aos a C OA)) l Ccj,Y,Qh (Fd,FR)] a (Beb a C OA NI) c=Ae q->(∀φ,q≠.ext φ)->GJ a:=λc q e nq z=>by rw[z,ac]at e;show nq _ [Cdd,e]
    show(sv b o (by rw[same b hb];show e)).cX (λc v _ q=>q) (AV c q) [Bz,c,xs,q];·rw[<-same c (U0 c _ q λφ z=>by cases z)];show q
    ·rw[<-same c (U0 c _ q λφ z=>by cases z)];show q)
   let C0:∀b o,f.get? b=Ai->EW a:=Aih e z (by rw[z,G0]at e;rw[Tr])
   let V0:Un (Ast) [] H R f Agy:=by
    rw[TW,l0,∀b,EW a->sU H a (Aos a C OA) b=BX,b,hb,ai hb];let vE:∀b o,BX=Ai->EW a:=Aih e z (by rw[z,E0]at e;rw[Tr])
    show[BF,λb o e n hb O=>m.keep b o (x b o e) (Bus b (C0 b o e) n) hb O,λb o e n hb O=>m.slot b o (x b o e) (Bus b (C0 b o e) n) hb O,EA b o e n O,Aih e O (m.there b o (x b o e) O),MK xs,BV b o u e,MK ps];·rw[<-same b (C0 b o e)];show m.free b o (x b o e) (Bus b (C0 b o e) n) O
    ·rw[<-same b (vE b _ e)];show m.vk b xs (Bus b (vE b _ e) e)
    ·rw[<-same b (vE b _ e)];show m.uC b o u (Bus b (vE b _ e) e)
    ·rw[<-same b (vE b _ e)];show m.uZ b ps (Bus b (vE b _ e) e)
   let I0:s'.os=os:=by rw[W,<-i]
   let p:QC R s':=by rw[XS,h',A,y,t',X0];obtain rfl:X0=os:=I0;show I.call (h':=h') (g':=A) (d':=y) (t':=t') (ch:=[]) V0 Q0 H0 (KW z [Qi,z])
   rw[Th,rv,hQ a s' _ Y p.aF P0 ?_];show ap1 hI I I0 H0 V0 Q0 P0 Ab Ab Ab Ab J0 G0 O [Bfy,D0,h l Y h1 h2 L]
end
section
variable{M:Model}{A:Around}{E:Value->Shared->Prop}{env:Env}{s:Shared}
variable{nm q:Str}{C N:Addr}{bs bm:List Value}{hdct:Bool}{sn:List Str}{sub:List Value}{ab:Bool}{col:Option Bool}{dd:Option Addr}{k0 k1 k2 k3 k5:Option Value}{newId:String}
def aqd(l:Bpf Bij=Aa)(f:Bbp=Ad)(h:EK M A x (λv H=>∃e t Y,v=AC e/\Bpq C=As (excClassObj nm q C N bs bm hdct sn sub ab col dd k0 k1 k2 k3 k5 Aig)/\Bpq e=Ae {cls:=Lh,dict:=Ae Y,data:=Qy #[RK,BM,BM,BM,Aqq,BM]}/\E (AC e) H) E):SM M (raiseStmt env Bbi Ad):=by
 let u:IW (Kj C::bm) (Bij)=Aa:=by rw[sbj,l,scu]
 unfold raiseStmt;rw[To,OO h (Bz v H O) _ _ x x];obtain⟨e,t,Y,rfl,c,D,r⟩:=O;obtain⟨F,g,d,B,os⟩:=H;repeat(first|with_reducible show Beh D|with_reducible show Beh c|(with_reducible show Ckm;rw[u])|wp_step)
 show wpAny_raiseNew_none f r
end
section
variable{X:Cx}{E:XK}{isX:Addr->Prop}{k:Nat}{C fI:Addr}{fd:FuncData}{ps:List Str}{np:Nat}{ans:List V->List V}{x:Str}{p cpos pos:Pos}{e:Expr}{es:List Expr}{t:TA}
def ad4(M:Azw C fI)(F:X.A.handled=Ad)(h:FM (Du (Jp B RN)) (λv d=>∃a t Y,v=Be/\Blp Btp/\d.heap.get? a=But C t NI/\X.xe Gk d)):FM (exec (Cmf [Ada,Jp B RN] Bv) Di) Q:=by obtain⟨S,q,N,j,D,r,J,n,c,g,f,R,I,U,i,A,b,T⟩:=M.obj;rw[arm_exec_Raise];rw[To,seG (aqd (C:=C) (nm:=S) (q:=q) (N:=N) (bs:=j) (bm:=D) (hdct:=r) (sn:=J) (sub:=n) (ab:=c) (col:=g) (dd:=f) (k0:=R) (k1:=I) (k2:=U) (k3:=i) (k5:=A) (newId:=Cfk) T.base F ?_)];rw[To,OO h (λv m G=>Auw (seG OV)) _ _ x x];obtain⟨a,t,Y,rfl,sc_,H,O⟩:=G;show BF a t Y Ab (sc_ _ _ b) H O
def aqe(M:Azw C fI)(F:sR By BD Ar Fp DH Ags k fI fd ps (scL Er np ans))(w:HZ (k+1))(T:Bgs)(f:Aok X E)(O:Aed)(L:Ji=Aa)(J:Ii)(R:ID=Aug)(B:Cu np)(P:Bhw t)(j:Gu=Af)(Q:Ayd=Sb::Rl)(d:Aop RN (Rl)=Af):ML (Cmf [Ada,Jp Ash RN] Bv) (skf C ans np E t):=by rw[Vg,Z,D];show ad4 M ND (xx (Bei J R j));show Deh Bpd M.kp [Cr,P RN S s Z H _ I h,λW m⟨v,n,A,r,U,q⟩=>FY A.aF] Q d;show ad3 M F w T f O A r U (show Cu OM by rw[<-Ic,U];show B) q λa b t Y G z N=>BF a t Y Ab G z N
def aqf(M:Azw C fI)(F:sR By BD Ar Fp DH Ags k fI fd ps (scL Er 0 ans))(w:HZ (k+1))(T:Bgs)(f:Aok X E)(O:Aed)(L:Ji=Aa)(J:Ii)(B:ID=Aug)(j:Gu=Af):ML (Cmf [Ada,Jp [] RN] Bv) (skf C ans 0 E saO):=by rw[Vg,N,D];show ad4 M ND (xx (Bei J B j));show sez (first:=[]) RR M.kp (ad3 (us:=[]) (vs:=[]) M F w T f O I BY Ab (Bls) Ck λa d t Y G z A=>BF a t Y Ab G z A)
end
def scN:Aw->Ba->Ba|0,_=>Abu 1|1,_=>Abu 2|2,_=>Abu 3|3,_=>Abu 3|4,_=>Abu 4|5,_=>Abu 5|6,W=>Byu 6::Akl::W|_,_=>Abu 9
def uY:Aw->Aw|6=>1|_=>0
section
variable{N:Nm}{X:Cx}{E:XK}{cl:Cl}{m:Nat}{τ':List (Nat×Nat)}{isX:Addr->Prop}{B:Bs}{H:Hp}{st:sd}
def aqg(r:LS (Rp N B H) J)(e:sC k O=Bi):scN k J=Cfx/\BR=uY k:=by
 rw[TC,sC,e];rw[Tz,e];·rw[Tr];rw[Uj];rw[TY,Ab]
 ·rw[Tr];rw[Uj];rw[TY,Ab]
 ·rw[Tr];rw[Uj];rw[TY,Ab]
 ·rw[Tr];rw[Uj];rw[TY,Ab]
 ·rw[Tr];rw[Uj];rw[TY,Ab]
 ·rw[Tr];rw[Uj];rw[TY,Ab]
 ·rw[Tr];cases r with|cons g P=>cases P;cases g;rw[TY,Ab]
 ·rw[Tr];rw[Uj];rw[TY,Ab]
 ·rw[Tr]
def ad5(S:A_)(r:LS (Rp N B H) J)(h:Q' (Cfj (sC k O) Bew AJ)):BR=uY k/\∀l Y,H l=Ad->H Y=Ad->Y≠l->E Mf NI [Abr,Ei l [DK,scN k J],Y,Qh (Fd,FR)]:=by
 cases W:sC k O with
 |none=>rw[Tg,W];rw[TJ]
 |some x=>
  rw[Tg,W];rw[Tc,e,A,aqg r W];rw[Th,A,EA l Y G z F];rw[e];let j:sU H l [DK,Cfx] Y=Ad:=by rw[ai F];show z
  let o:=S.new (o:=Cns) G;let a:=cf (o:=Cns) S G;let b:=cf (o:=Qh (Fd,FR)) o j;let n:=S.cy G;show h Mf Y _ B (a.trans b) (o.new j) [DL,l,ac,o.cy j,Hy [Awp,F] ac,n]
def vS.fV(h:Q' (Avs))(k:∀O s J M L,DV->Apj->LS (Rp N L M) J->Avc τ' L M D (f O s)->o J M):uL N B H o E r:=by cases r with|ok d st=>showλJ M L l S R=>k d st J M L l S R (Bqw l)|err x st=>show h|stuck=>show h
def aqh(M:Azw C Y)(F:sR By BD Ar Fp DH Ags j Y u l (scL Er (uY k) (scN k)))(w:HZ (j+1))(T:Bdq u l)(f:Aok X E)(O:Aed)(L:Ji=Aa)(J:Ii)(d:ID=Aug)(I:Gu=Af)(U:Afh=uY k)(Q:xX b=uY k)(P:Bkb=Aa)(v:Qo N X E R b):MI N X E m τ' (Cmf [Ada,Jp R a] s) (Bie k b):=by
 obtain⟨t,z,q⟩:=v;let y:Cu (uY k):=by
  let:uY k<=1:=by unfold uY;split<;>decide
  show Li this Dc
 cases R with
 |nil=>let g:uY k=0:=U.symm;rw[g]at F;rw[Vk,aqf M F w T f O L J d I,i,D];cases b with|nil=>rw[TM,Q' (match sC k []with|some x=>Bew|none=>AJ)];let:=ad5 (C:=C) S BY h;rwa[g]at this|cons c b=>rw[g]at Q;rw[T',Q,(sfQ _)]
 |cons e R=>rw[Vp,P];rw[Vk,aqe M F w T f O L J d y z I (Bdv) (Bdw),i,D];rw[TM,Q' (Ru b A xs [Cfj,sC k xs,Bew,AJ])];show Ajk i A (h.fV λds l0 vs n W Z o r1 G=>ad5 o r1 G)
end
section
variable{X:Cx}{pins:List (Addr×Obj)}{σ:L2.St}{H H':Hp}{s s':Shared}{E:XK}{isX:Addr->Prop}{a C dx:Addr}{B h':Heap}{fl:Option Value}
def ad6(j:Ayz=[])(D0:∀x,Ow=Aa)(I:Bu)(R:scJ By BD Er Oc H s E a C dx H' B fl s')(M:B.StaysIn h')(u:yG Agy h'):Bhf {s' with heap:=h',toks:=tk}:=by
 let A:Bhf s':=by rw[XS,f,g,d,t,E0];obtain rfl:E0=s.os:=R.os;show Cyo [] R.un R.sv R (KW z [Qi,z])
 rw[TW,C0,∀b,b∈Ast->b=Ki\/b∈RD,b,T,FI (I.eK b T)];rw[Tx,h,∀b:Fx,Bxa,b,by rw[j];show xU]
 let Q:∀b o,HD=Ai->BX=Ad->Asz->Bwz->KS=Ai:=λb o e n U hf=>M b o (R.old b o e n λhm=>(C0 b hm).elim U hf);let l0:∀x c v,KO=AW->s'.heap.IsCell c v->h'.IsCell c v:=λx c v e k=>by
  rw[Tj,v0,o0,e0,d0,Avz x e];rw[Tx,hf,c∉RD,z,by rw[Tj,_,G,N,nf,I.ok.aN.mem z];show JA (MD (uP N) (Cbw c (D0 x) e)) (Amu)]
  obtain⟨o1,W,D⟩:=k;let b1:=R.old c o0 e0 (Bmp x e) λhm=>(C0 c hm).elim (I.cA x c e) hf;let:=R.yH.1 c o0 b1;rw[Tt,W];rw[Ve];rw[Ua,M c _ b1,D]
 show⟨I.ok,R.os.trans I.os,PQ R,[BF,HF b o e n T O,HF b o e n T O,A.base.free,BV b o e O,A.base.vk,A.base.uC,A.base.uZ],?_,GX x c,A.free,A.wL,JQ,MK o,A.len⟩;·show Q b o (Biw o e n T O) (Bpc o e n O) (FC q) T;rw[Ug,Bfb,Eb q Amu]
 ·rw[Tc,y,W,A.base.slot b o e n T O];rw[Tj,_,G,N,nf,Cgk];rw[e]at N;cases N;rw[Tc,G0,J,u.1 b _ W nf];rw[Th,G0,J]
 ·rw[Tc,o',W,A.base.there b o e O];show u.2 b o' W
 ·obtain⟨m,hn,U⟩:=A.loc;rw[Tp,m,u.1.ns hn,HF i x v W N J];rw[Te,w,r,l,U i x v W N J];show HS w r;rcases l with l|⟨Z,c,L,k⟩;·rw[TB,l]
  ·rw[TN,AO Z c L (l0 x c _ L k)]
 ·rw[Tc,v,k,A.cell x c e];rw[Th,v,l0 x c v e k]
 ·rw[Tk,W,S,l1,f1,D,Bjs Y];rw[Th,Q Ax BE W S l1 f1,(A.pin p Y).2]
 ·show Bmo (R.sv b o e) (BV c v L q) q q [Kh,q,q];obtain⟨P,F⟩:∃P,H' c=Ae P:=by
   rw[X'];·rw[Ur,e]
   ·rw[Ur,L]
  rw[Te,G,N,J,R.vE c P F];rw[q]at N;cases N;show M c v J
def aqi{E:IZ}{os:OsState}(c:MP C=As (excClassObj S q C N j bm r b C0 ab l0 dd k0 k U i k5 x))(hR:MP R=As (excClassObj D q' R F G w I L O P T m J o j2 j3 W n))(Y:MP e=Fj)(p:v.cls=Lh)(l:w.contains (Bij)=Aa)(y:Bpf [AC,R]=Aa)(Z:Q Aa [Afj,h,g,d,t]):[EQ,M,A,excMatches (AC e) (AC R),Q,E,Afj h g d t]:=by
 let u:IW (Kj R::w) (Bij)=Aa:=by rw[sbj,l,scu]
 let z:IW (Kj C::bm) (AC R)=Aa:=by rw[sbj,y,scu]
 let f:=tc_notTuple;unfold excMatches;repeat(first|(with_reducible show Beh Y;rw[p])|with_reducible show Beh hR|with_reducible show Beh c|(with_reducible show sio hR ?_;rw[u])|(with_reducible show Ckm;rw[z])|wp_step)
 show Z
end
structure scO(K:PySem.W.Frag)(R C:Addr):Al where
 obj:∃(nm q:Str)(N:Addr)(bs bm:BA)(hdct:Bool)(sn:Dl)(sub:BA)(ab:Bool)(col:Jz Bh)(dd:Mx)(k0 k1 k2 k3 k5:EU)(newId:String),Agn C=As (excClassObj nm q C N bs bm hdct sn sub ab col dd k0 k1 k2 k3 k5 Aig)/\Bpf [AC,R]=Aa
 mr:∃cd,Cgu C=Ae cd/\Ciz=Aa
 ga:Qj Cfn=Bjy Ccl
 gt:Qj Crj=S_
 hd:Cfo C=Aa
 no:Qj Fd=S_
section
variable{X:Cx}{pins:List (Addr×Obj)}{σ:L2.St}{H H':Hp}{s s':Shared}{E:XK}{isX:Addr->Prop}{a C dx:Addr}{B h':Heap}
theorem Inv.forget(I:Bll IQ σ H s)(f:h'.Ns Ki h)(U:Bot Ki h'):Bll IQ (Azb Bqe) H {s with heap:=h',toks:=A}:=by
 let F:∀b o,Cfq=Ai->Asz:=Aih e q [JA,(Bfb),Ag];show⟨I.ok,I.os,Aap,[BF,λb o e n T O=>Mh b (F b o e) (Biw o e n T O),HF b o e n T O,Csv,BV b o e O,Cvf,Cvg,Cvh],HV f [HF,i,x,v,W,N,J],GX x c,SU,I.wL,JQ,MK o,Dfd siU⟩;·rw[Tc,y,W,Cju o e n T O];rw[Ur,Mh b (F b o e) W]
 ·rw[Tc,t,W,Bym o e O];rw[Ur,Mh b (F b o e) W]
 ·grind
 ·rw[Tj,v,o,W,d,Avz x e];rw[Ts,v,o,Mh c (I.cA x c e) W,d]
 ·rw[Tc,W,r,Bjs Y];rw[Th,Mh _ r.2.1 W,r]
 ·show Bmo (I.sv b o e) (BV c v L q) q q [Kh,q,q];show DT (U.2 c Axc) q;rw[X'];·rw[z,SU]at e;grind
  ·rw[z,SU]at L;grind
def aqj{i:Nat}(F:Aok X E)(I:Bll IQ σ H s)(Fl:scJ By BD Er Oc H s E' a C dx H' B (Aya) s')(hR:∃f,Azw R f)(O:scO Ar R C)(hg:Ii)(hm:ID=Ex R)(hd:Gu=Af)(hN:X.N.Nodup)(hi:Mj=Ae n)(U:Afs n=Fy)(H0:Cqh n=Af)(hb:Afz (PF n Q) Fd (Du (PF n Q))=Du (PF n Q))(I0:H' dx=As [Qh,(Fd,FR)])(Y0:D.rt (FR) H'):[RF,noteFrame Gk Di,KJ M1 [RF,Ctg Gk,KJ N1 [RF,handleBy Gk Di [.ExceptHandler [Ada,NW np] (Ae n) [Ceb [Ada,Hn (PF n Q) Fd p3] p4] hp],(SP X IQ D),N1],M1],s']:=by
 let yH:=Fl.yH;rw[F.u_]at yH;obtain⟨fR,hR⟩:=hR;obtain⟨P2,q',N',U1,T1,F2,Q2,U2,Q1,Y1,Z1,j0,j1,A,j3,j5,C1,T⟩:=hR.obj;obtain⟨S,q,N,bs,bm,D2,sn,T2,ab,X1,dd,k0,k,k2,k3,k5,N2,lk,y⟩:=O.obj;show adZ [Ni,Bys,F.u_] F.fr Aot yH λh4 f4 u4=>pU f4 [Bz,L,j,u5];let r:=ad6 (tk:=s'.toks) F.ex F.fn I Fl j.1 (Dfu);show wpAny_handleBy_cons (codeAny_handlers_test (sgh r.ok.kind hg (Calls.loadGlobal_global [Eb,r.ok.glob,r.mod.glob.keeps r.bk] hm ?_) hd)) (by intro q;cases q);rw[TZ,oe,vs,Y,⟨p,J2⟩,C2,_,id j.2.2.2];show aqi (r.aF _ _ lk) (r.aF _ _ C1) Y p T.base y (codeAny_handlers_suite_as ?_);show pU (s:={s' with heap:=L}) j [Bz,h6,c,u6];let h:=ad6 (tk:=s'.toks) F.ex F.fn I Fl c.1 (DT Dfu u6);show kO (v:=Be) h hN hi (AK U) Ab (Bz e t Z0) (Bw U);rw[TZ,l0,P1,J0,⟨D0,G0⟩,E0,_,id c.2.2.2];let O0:e.heap.get? a=Ae l0:=by
  obtain⟨b,sb,d⟩:=Z0;show DT (sb.2 a Axc) J0;rcases d with q|q;·rw[Te,_,⟨L',oL,hf,_,K2,nf⟩,_,c.2.2.1];rw[F.fr]at hf;grind
  ·rw[Tj,v,o,e1,d1,h.cell n b q];grind
 show sgi (sgj (qQ hb ?_));obtain⟨m,hn,P0⟩:=t.loc;let U0:i<Bqe:=by rw[Axy];show(Dj hi).1
 rw[Te,w,F1,lw,P0 i n Gk hi (yN U0) (AK U)];let hw:m n=Ex a:=by
  rcases lw with⟨_,G⟩|⟨G,_⟩;·rw[G];show vo Aul F1
  ·rcases G with G|G<;>rw[Up,show Afs n=_ from G]<;>cases U
 show Cjc (sgg t.ok.kind U hn hw ?_) H0;rw[Te,mA,ns,D1,t.sv dx _ I0];rw[Te,od,Z,Q0,qK ns];let hv:mA Fd=Ex l:=by let:=D1 Fd;rw[UT,hu,g,uB.some_of (v:=FR) (o:=mA Fd) this];rw[hu];show vo Aul g
 let J:Ctq e.heap a l0 (Ae od):=[AO,O0,D0,by obtain⟨W,P,M,c4⟩:=l0;obtain rfl:M=Qy P1:=E0;rfl,by rw[G0];show Z];obtain⟨V1,C0,X0⟩:=O.mr;show ap9 t.aF J C0 X0 O.ga O.gt (PySem.W.findObj_own O.hd O.no (by obtain⟨W,P,M,c4⟩:=l0;rfl) [Ni,Q0,hv]) Ab ?_;let I8:=t.tok (e.toks+1);obtain⟨m8,V0,_⟩:=I8.loc;show wpAny_nameGoes (s:={e with toks:=e.toks+1}) U V0 (DY I8.ok.kind) [BV,h9,m9,W0,J1];show Ds FR _ H' (Inv.forget I8 W0 J1) Ab Y0
end
abbrev xt(X:Cx)(g:IZ)(U:D_):Cx:={X with xe:=g,pn:=U}
def ET(D:sbz):XK:=LU o M (∃Y l,o=Ae Y/\M Y=As [Qh,(Fd,FR)]/\D.rt (FR) M)
def skg(X:Cx)(P:Eg ExceptHandler)(S:D_)(D:sbz):IZ:=λe m=>[RF,noteFrame e Di,KJ C [RF,Ctg e,KJ o [RF,handleBy e Di P,(SP X S D),o],C],m]
section
variable{N:Nm}{X:Cx}{E:XK}{cl:Cl}{m:Nat}{τ':List (Nat×Nat)}{isX:Addr->Prop}
def aqk(o:X.Ok):(xt X g U).Ok:=⟨o.mod,o.kind,o.glob,o.blt,o.above,o.inj,o.has,o.sc0,o.hd,Ahv o,o.u_,o.sbx,o.bs,o.wu,o.saI,o.saJ,o.aN,o.vX⟩
def ad7(o:(xt X g U).Ok):X.Ok:=⟨o.mod,o.kind,o.glob,o.blt,o.above,o.inj,o.has,o.sc0,o.hd,Ahv o,o.u_,o.sbx,o.bs,o.wu,o.saI,o.saJ,o.aN,o.vX⟩
def aql(F:Aok X E)(hR:∃f,Azw R f)(hX:∀C,Aed->scO Ar R C)(J:Ii)(hm:ID=Ex R)(j:Gu=Af)(hN:X.N.Nodup)(hi:Mj=Ae n)(hl:Afs n=Fy)(t:Cqh n=Af)(T:Afz (PF n Q) Fd (Du (PF n Q))=Du (PF n Q))(q:∀g U E',sc7 Ags (xt X g U) E'->wH N (xt X g U) E' cl O e):MI N X E m τ' (.Try [Ceb (Ae O) J0] [.ExceptHandler [Ada,NW np] (Ae n) [Ceb [Ada,Hn (PF n Q) Fd p3] p4] Y] [] [] O0) (.zT i e):=by
 rw[VS,D0,[ExceptHandler.ExceptHandler _ _ _ _],P];let C0:∀l0 D,sc7 Ags (xt X (skg X P l0 D) (X.pn++l0)) (ET D):=by intro l0 D I0 σ H s ev s' k Rz;obtain⟨a,C,dx,M,B,rfl,o⟩:=Rz;let I:L2.Inv _ _ _ _ _:=⟨ad7 k.ok,k.os,PQ k,k.base,k.loc,k.cell,k.free,k.wL,Kg (k.pin p (sfx _ Y)),k.sv,k.len⟩;obtain⟨u,l,W,E0,G0⟩:=o.e;cases W;rw[<-D0];show aqj F I o hR (hX C o.sin) J hm j hN hi hl t T E0 G0
 rw[Tp,λD σ H=>∀l0,Crl (q _ _ _ (C0 l0 D)) σ D.rt,λl0 s σ H D I h=>?_,λσ H B ρ st D r S h l0=>?_];·let k:L2.Inv (xt X (skg X P l0 D) (X.pn++l0)) [] _ H s:=⟨aqk I.ok,I.os,Aap,Cdi,Bmq,Cdj,SU,I.wL,Kg Clg,HC,Axy⟩;subst D0;show wpAny_Try_except (sgi (sgj (OO ((scE (q _ _ _ (C0 _ D))).1 _ s _ H _ k (h _)) (Bz v s1 Z) ev s1 Z Z)));obtain⟨y,H1,A,ry,q1⟩:=Z;show Ds y _ _ ⟨ad7 A.ok,A.os,PQ A,A.base,A.loc,A.cell,A.free,A.wL,Kg (A.pin p (sfx _ Y)),A.sv,A.len⟩ ry q1
 ·show(scE (q _ _ _ (C0 _ D))).2 _ H B _ _ _ r S ?_;rw[WL,[Cxs,Core.ev _ _ _ _,Ew _ _,Ew _ _,AJ]];cases w:Core.ev _ _ _ _ with|ok d H0=>rw[Tg,w];show h|stuck=>rw[Tg,w];show h|err xs H0=>rw[Tg,w];intro c dx M L l z xr;obtain⟨b,G,h2,h3,h4⟩:=xr;show Gd _ b G (h _ _ _ l z [OT,b,_,h3,h4,Clt])
end
section
variable{N:Nm}{X:Cx}{E:XK}{cl:Cl}{m:Nat}{τ':List (Nat×Nat)}{B:Bs}{H:Hp}{st:sd}{Q:VK}
def ad8{st:Stmt}(h:ML st t):ML st (λD A H=>Aas=X.N.length->t D A H):=λS s A H D I k=>h _ s _ H D I (k Axy)
def slM(d:Addr)(f:tM->EU):R2:=λx y H Q=>∃k u v,x=Apd/\y=kV k/\f k=BW/\KQ/\Ov v
def aqm(A:∀h,Blp h->Brn (ye By BD) f):wO X (slM d f):=by intro o l S s D H x y v u Q I r C h P;rw[WU,k,z,w,rfl,R,L,q];rw[Uj];let n:=A _ RR;show tail_any n.typeIs sj4.lookup (wpAny_getItem_of (gi C) n R [Lv,w,Apt,L,q]) P
def saz(N:Nm)(t:Nat)(f:tM->EU):Al:=∀y d,xD t y=Ea->∃k u v,(∀B H w,Afy y w->w=kV k)/\f k=BW/\KQ/\∀B H,RZ
def ad9(I:∀h,Blp h->Brn (ye By BD) f)(F:saz N t f)(J:Ii)(O:ID=Ex d)(j:Gu=Af)(P:sdd b)(T:Bc b l):Bc (Agl Aqh b s) (.tab t l):=by obtain⟨R,Y,q⟩:=T;rw[UD,ri (aqm I) (qC (v:=Apd) J O Ab j) Y P];show Gw (QY λy M _ u n W Z o g G=>?_);obtain⟨z,e,C⟩:=G.opt;rw[Vd,k,w,v,L,U,i,a,F y z e];show[DB,k,w,v,Ab,L _ _ _ g,U,i,Arr C (a ..)]
def aqn(I:t<2)(hm:∀h,Blp h->Brn (ye By BD) f)(hT:saz N t f)(J:Ii)(O:ID=Ex d)(j:Gu=Af)(P:sdd b)(T:Bc b l)(c:X.N.Nodup)(hi:Mj=Nc)(hy:Ahw y)(E0:Aab (Agl Aqh b H0) [Azh,G0] Amz=Nn)(R:X.fn y=Aa\/Afs y=Fy)(I0:Bzx (λp=>Ax !=i)=Aa):MI N X E m ((i,Cc+t)::CP) (Adc [Azh G0] (Agl Aqh b H0) s) (F_ i (.tab t l)):=by
 rw[Te,L,C,qa,ad9 (p:=p) hm hT J O j P T];rw[Ua,ad8 (kS c hi hy C E0 R),λσ H B A st D r S h k=>?_];show qa σ H B A st _ r S (h.aM λd l0 U v n W Z o g G=>?_);rw[TW,M,Bzo (Ax≠i),p,Y,Aq]
 let F:=Ip IT g M;let U:Kp Btx (KA y [LA,(xD t y)])=Jd l0:=U;let C0:∃f,d=.fn f/\uf (Cc+t) f=Aa:=by
  cases w:Btx with
  |ok yv u=>
   rw[Up,w];let U:tG u (xD t yv)=Jd l0:=U;cases e:xD t yv with
   |none=>rw[Up,e];cases U
   |some z=>
    rw[Up,e];injection U with e1 e2;subst e1;match t,I with
    |0,_=>
     rw[TC,xD,e];rw[Tz,e]
     ·repeat(rw[Tz,e];·rw[Tr];rw[Vh,Ab])
      grind
     all_goals grind
    |1,_=>
     rw[TC,xD,e];rw[Tz,e];·rw[TF,q];cases q
     ·rename_i a _;rw[Tz,e];·rw[Tr];show Azd _;unfold uf;rw[Bmy,JO,uw];omega
      ·rw[Tr]
     ·rw[TF,q];cases q
     ·rw[Tr]
  |err x u=>rw[Up,w];cases U
  |stuck=>rw[Up,w];cases U
 show G _ n W ES o ?_;let D0:i<Aas:=by rw[r.len,k];show(Dj hi).1
 rw[Ts,Bwe,F.vK,F.at_,JQ];rw[YF,Y];·show HS d (o9 D0);unfold Ty;rw[My,My];show C0
 ·show F.ty p Y
end
section
variable{N:Nm}{X:Cx}{E:XK}{cl:Cl}{m:Nat}{τ':List (Nat×Nat)}{B:Bs}{H:Hp}{st:sd}{Q:VK}
def slN(N:Nm)(cl:Core.uF)(c i v:Nat)(T:Ayn)(E:XK)(t:TA):TE:=λD H Q=>∃f,uf c f=Aa/\D[i]?=Ln Ig/\t D H λJ n=>wh N cl f v T J n Q E
def aqo(w:∀f,uf c f=Aa->∃k C l,sR By BD Ar Fp DH a k Ig C l (wh N cl f j l0)/\HZ k/\Amb Ar Ig=Aa/\Bdq C l)(g:Beu a)(O:DF Aqh (Bfd))(M:Ajm (e::R) t)(Y:Lb (e::R)=Sb::Lb R)(d:Aop o (Lb R)=Af):[Ef,Jp (e::R) o,slN N cl c i j l0 E t]:=by rw[UZ];rw[VP,f,U,L,z];rw[Vd,k,C,l,F,b,Z,T,w f U];show xx [Cr,O _ s _ H (λv n=>v=Amy/\n=H) I [Blw,L],λu s1⟨y,n,A,r,W,J⟩=>?_];subst W J;obtain rfl:u=Amy:=r;show sbD Bpd Z [Cr,M _ _ _ _ _ _ A z,λus s2⟨_,_,G,P,q⟩=>FY G.aF] Y d;show dt F b T BY g G P Ag
def aea(L:Cc<=c)(Y:GJ 102)(w:∀f,uf c f=Aa->∃k u l,sR By BD Ar Fp DH a k Ig u l (wh N cl f np l0)/\HZ k/\Amb Ar Ig=Aa/\Bdq u l)(z:Beu a)(O:DF Aqh (Bfd))(y:DX i c CP)(U:xX b=np)(I:xY CP l0 b=Aa)(P:Gv (e::R) tu=Aa)(M:Qo N X E (e::R) b):Bc (Jp (e::R) s) (.wV (Ael) b):=by rw[Wh,t,C];rw[Vp,P];rw[UD,aqo w z O C (Bdv) (Bdw)];rw[Te,d,g,T,r.ty _ y];rw[Ty,My,AF Y]at T;obtain⟨f,rfl,j⟩:=T;rw[Te,v,q1,q2,Bdo _ g];rw[US,Kx Asp];rw[Tg,g];obtain rfl:v=Amy:=q2;rw[Ts,f,j,q1,Gw (Bbu λds C0 W J n B1 Z o F G=>?_)];show⟨by rw[<-sbG F,Bvs,U],_,_,_,_,F,o,adx I IT W,G⟩
def aqp(S:A_)(L:c=5\/c=6)(A:sbQ c O=Bha)(Y:Bka=Aa)(r:LS (Rp N B H) J)(D:H y=Ad)(j:H T=Ad)(w:T≠y):BR=NL/\∃q:Md (B++[Nc]) [Abr,Aeo (Lu y),y,Blk T (SX (zw c J))],SI (B++[Nc]) [Abr,Aeo (Lu y),y,Blk T (SX (zw c J))] (st++[Ll c I]):=by
 let h:sU H T (Lu y) y=Ad:=by rw[Awp w];show D
 let a:=cf (o:=Lu y) S j;let o:=S.new (o:=Lu y) j;let b:=ia (o:=Blk T (SX (zw c J))) o h;let C:BR=NL/\KN=Ayg/\Acw I (zw c J):=by
  rw[Yx];·match O,J,r with|[d],[v],.cons g .nil=>cases A;rw[Vp,Y];show⟨Ab,Ab,_,_,Ab,g.pure Y.1,_,_,Ab,Ab,Ab⟩|[],_,_=>cases A|_::_::_,_,_=>cases A
  ·match O,J,r with|[],[],.nil=>cases A;show BF Ab Ab _ _ Ab Ab Ab|_::_,_,_=>cases A
 rw[Tp,C.1,a.trans b,o.cell h [BF,y,T,zw c J,Ab,ac,C.2.1,Aws (Aws C.2.2 a) b]]
def aqq(L:c=5\/c=6)(M:Mk Ar IN fI)(F:sR By BD Ar Fp DH CX k fI u ps (sd9 N c))(w:HZ (k+1))(hg:Ii)(hm:ID=Ex IN)(hb:Bdq u ps)(O:Atb)(j:Gu=Af)(U:xX cs=NL)(I0:Afh=NL)(P:Bkb=Aa)(ha:Qo N X E R cs)(hN:X.N.Nodup)(hi:Mj=Nc)(hy:Ahw y)(P0:Aab (Jp R a) [Azh,l] Amz=Nn)(hf:X.fn y=Aa\/Afs y=Fy)(G0:Bzx (λp=>Ax !=i)=Aa):MI N X E m ((i,c)::CP) (Adc [Azh l] (Jp R a) s) (F_ i (.yl c cs)):=by
 rw[XI,t,pa,qa];let U0:∃d:TA,[Ef,Jp R a,sgw IN (sd9 N c) [] E d]/\∀σ H B A st Q,SR N σ->A_->uL N B H Q E (MZ cs A)->d σ H Q:=by
  cases R with
  |nil=>rw[Tp,saO,agp (dvs:=[]) (ds:=[]) M F w hg hm hb BY O j,Bil σ B A Q r S h];cases cs with|nil=>show h [] H B ES S BY|cons c' cs=>rw[<-I0]at U;rw[T',U,(sfQ _)]
  |cons e R=>rw[Vp,P];rw[Tp,t,qT (dvs:=[]) (ds:=[]) M F w hg hm hb BY O pa j (Bdv) (Bdw),qa]
 obtain⟨d,pe,q⟩:=U0;rw[Ua,ad8 (kS hN hi hy pe P0 hf),λσ H B A st D r S h J0=>?_];rw[TM,Aqp ((i,c)::CP) H ([Ado,Ru cs A C ([Con,sbQ c C,Il Bka (st++[Ll c I]) Bsg]),v,Bic (MS Abe)])];let h:Aqp ((i,c)::CP) H ([Boe,MZ cs A,C,match sbQ c C with|some I=>Il Bka (st++[uR.obj c I]) (Core.D.cell Iv)|none=>sA.stuck,v,Cef (MS Abe)]):=by cases w:MZ cs A<;>rw[Tg,w]<;>show h
 show Ajk σ A (h.fV λds l0 J n W Z o g G=>?_);cases C0:sbQ c ds with
 |none=>rw[T_,C0];rw[Vc]
 |some I=>
  rw[T_,C0];let G:Avc ((i,c)::CP) W n D (Ado [Aub,Bka=Aa,SG (Core.D.cell Bec) (l0++[Ll c I])] v [Bic,(MS Abe)]):=G;rw[Td,Y,Bka=Aa]
  ·rw[Ux,Y,G];intro z T E0 H0 ne;rw[Te,D0,le,S2,aqp o L C0 Y g E0 H0 ne];rw[ud];show⟨z,T,J,Ab,D0,ac,Ab,?_⟩;rw[kL];let V0:=o.cy E0;let f:(W++[Ae z])[Bec]?=Apq z:=by rw[o.len,Cdp,zm];rfl
   let rc:Afu (W++[Ae z]) [Kf,Kf n T [Lu,z],z,Blk T (SX (zw c J))] (FX Bec) Ajw:=AO [Cac,su,o.len,sdh _] z Ab [KW,e,by rw[TV,f];show Cdd (GF e)];rw[tZ]at G0;rw[TW,Q0,Bzo (Ax≠i),p,Y,Byp (G0 p Y)]
   let R1:=Ip ((IT).mono le) rc Q0;let O0:i<Aas:=by rw[r.len,J0];show(Dj hi).1
   show G _ _ _ le S2 [AO,R1.len,R1.vK,R1.at_,JQ];rw[YF,Y]
   ·show HS _ (o9 O0);unfold Ty;rw[Av (show c<Cc by rw[Yx]<;>decide)];show DB Bec z T _ Ab f ac (pK ?_);rw[Yx];·change 2=HA J [Bnt 0];rw[su,D0];rfl
    ·rfl
   ·show R1.ty p Y
  ·rw[Uz,Y,G];rw[Vc]
end
abbrev Qs:=D_
structure Pq(qs:Qs)(H Hm:Hp):Al where
 at_:Ama (H CG=Cfd JU (Lu 0)/\Hm CG=Ad)
 off:∀b,(Ama (CG≠b))->Hm b=BX
def wj(H:Hp)(n:Qs):Hp:=λb=>Iz [Akm,(n.map (·.1)),b] Ad BX
def yI(H:Hp)(n:Qs):Hp:=λb=>match Ctw with|some o=>Pf (Lu 0)|none=>BX
def aeb:∀{n:Qs},(∀p∈n,Ax=b->BE=o)->DX b o n->Ctw=Ai
|[],_,h=>JA h Ag
|q::n,k,h=>by
 rw[tX];rw[Um,b=CG];·grind
 ·rw[Arl e];rcases FI h with D|h;·grind
  ·show aeb Ag h
def auG:∀{n:Qs},(Axf (CG≠b))->Ctw=Ad|[],_=>rfl|q::n,h=>Aq
def kE(h:Axf (H CG=Cfd JU (Lu 0))):Pq n H (wj H n):=by rw[Th,λq Z=>FY (h q Z),AV b T];all_goals grind[wj]
def aec(k:∀p∈n,Axf (Ax=CG->BE=JU))(h:Axf (H CG=Ad)):Pq n (yI H n) H:=Aj (λq Z=>Aj [Hy,yI,aeb Ag Z] (h q Z)) [Acb,by grind[yI]]
section
variable{P:Program}{w:World}{qs:Qs}{H Hm H' Hm':Hp}{h h':Heap}{fs:List Addr}
theorem Pq.no(p:KU)(e:Hm b=Ai):Ama (CG≠b):=λq Z D=>Akv (Bdf Z).2
theorem Pq.up(p:KU)(e:Hm b=Ai):BX=Ai:=by rw[<-Caa (p.no e)];grind
theorem Pq.noV(p:KU)(e:BX=Ai)(O:∀A,o≠.ao A (Lu 0)):Ama (CG≠b):=λq Z D=>Akv (Bdf Z).1
theorem Pq.down(p:KU)(e:BX=Ai)(O:∀A,o≠.ao A (Lu 0)):Hm b=Ai:=DR [Caa,(p.noV e O)]
theorem Pq.none(p:KU)(e:BX=Ad):Hm b=Ad:=by
 rw[p.off b];·grind
 ·intro q Z D;let:=(Bdf Z).1;grind
theorem Pq.em(qs:Qs)(b:Addr):(∃o,DX b o qs)\/Ama (CG≠b):=Aq
def Pq.pX(p:KU)(x:R'):Atf Hm h:=HK a o ((x a o (Cdq)).cX Ag (KW q [Bzb,q,z]) [HM,C,q,Bzb q z])
def Pq.aed(p:KU)(x:Atf Hm h)(k:Ama (MP CG=Ayb)):R':=HK a o (by
 rcases Pq.em _ a with⟨A,T⟩|T;·let:=(p.at_ _ T).1;rw[Tt,e];rw[Ve];rw[Tp,k _ T,_,k _ T]
 ·rw[<-p.off a T]at e;show(x a o e).cX Ag (KW q (p.up q)) [HM,C,q,p.up q])
def Pq.aee(p:KU)(L:Pq qs H' Hm')(u:Un fs [] H H' h h')(sv:Atf H' h')(k:Ama (MP CG=Ayb)):Un fs [] Hm Hm' h h':=by
 let U:=λq Z=>(sv _ _ (L.at_ q Z).1).1;show[BF,HF b o e n T _,HF b o e n T _,EA b o e n _,u.there,MK C,BV b o x e,MK l]
 ·rw[XV,qs,b,A,B];·grind
  ·show u.keep b o e Cxd T AN
 ·rw[XV,_,b,A,B];·rw[Ur,by rw[U _ B,<-k _ B];omega]
  ·show u.slot b o e Cxd T AN
 ·rw[XV,_,b,A,B];·show(Bsz B).2
  ·rw[L.off b B];show u.free b o e Cxd AN
 ·show L.down (u.vk b _ (Cdq)) [Cxy,z]
 ·rw[L.off b (p.no e)];show u.uC b o x (Cdq)
 ·rw[Tc,m,q,u.uZ b _ (Cdq)];rw[Th,m,L.down q [Cxy,z]]
theorem Pq.unU(p:KU)(L:Pq qs H' Hm')(u:Un fs [] Hm Hm' h h'):Un fs [] H H' h h':=by
 show[BF,λb o e n T _=>u.keep b o e (p.none n) T AN,λb o e n T _=>u.slot b o e (p.none n) T AN,EA b o e n _,u.there,MK C,BV b o x e,MK l]
 ·rw[XV,_,b,A,B];·let:=(p.at_ _ B).1;grind
  ·rw[<-L.off b B];show u.free b o e (p.none n) AN
 ·show L.up (u.vk b _ (Bzb e z))
 ·rw[XV,_,b,A,B];·let:=(p.at_ _ B).1;rw[Tt,e];rw[Ve];show(Bsz B).1
  ·rw[<-L.off b B];show u.uC b o x (DR [Caa,B])
 ·rw[Tc,m,q,u.uZ b _ (Bzb e z)];rw[Th,m,L.up q]
end
section
variable{N:Nm}{qs:Qs}{B B':Bs}{H Hm H' Hm':Hp}{st st':sd}{d:Core.D}{v:V}
def pY(h:Afg=Aa)(A:Obj):o≠.ao A (Lu 0):=E_ (by rw[Uo];rw[Tf])
def Pq.ic(p:KU):∀a o,Afg=Aa->AM=Ai->Qt->Hm a=Ai/\NB (N.w EB) B a:=λa o O G z=>Aj [Cmg,(pY O)] z
def Pq.aef(p:KU):∀a o,Afg=Aa->Hm a=Ai->Qt->AM=Ai/\NB (N.w EB) B a:=λa o _ G z=>Cas G z
def sf2(qs:Qs):Al:=Ama (∃u,NQ JU=FX u)
theorem RS.bv(S:A_)(h:Gj∈B):∃o,Afg=Aa/\AM=Ai:=by
 rw[Tc,i,h,sas h];let A:i<Iv:=Ckr
 let q:=Ahr _ _ (Dz A) h;cases L:st[i]with|lst C=>rw[UI,L];rw[XJ,b,D,G,_];cases D;rw[Vh,G]|obj c I=>rw[UI,L];rw[XO,b,Y,J,D,G];cases D;rw[Vh,G]|dict T=>rw[UI,L];rw[XD,b,D,_];cases D;rw[Vh,G]|dead=>rw[UI,L];cases q
theorem Pq.pnD(p:KU)(b:sf2 qs)(h:Pn B H c m)(f:∀u,NQ m≠FX u):Pn B Hm c m:=by
 show Pu Ck;rw[p.off c [GX,q,Z]];·show Bk
 ·let:=(Bdf Z).1;rw[VW,e,Bk];rw[Tc,u,F,b q Z];grind
theorem zu.nc(h:zu m q)(u:EU):NQ m≠FX u:=by rw[VP,J,t,G,_];grind
def Pq.pZ(p:KU)(b:sf2 qs)(S:A_):Aum N Hm:=by
 show RS.gen S p.ic (AV a M) [Aj,AV a M,AV T h];·rw[Te,o,O,e,Cvn];rw[e];show p.down e (pY O)
 ·rw[Tc,⟨o,O,G⟩,z,Bez a M];rw[Th,Am o O [Cmg,(pY O)],z]
 ·rw[Tj,l,G,z,F,Cme h];rw[Ts,_,Cmg Ag,z,GX s w];rw[Tk,c,m,U,R,t,F _ _ e];rw[TU,c,_,U,p.pnD b R t.nc,t]
def Pq.aeg(p:KU)(S:Aum N Hm):A_:=by
 show RS.gen S p.aef (AV a M) [Aj,AV a M,AV T h];·rw[Te,o,O,e,Cvn];rw[e];show Cdq
 ·rw[Tc,⟨o,O,G⟩,z,Bez a M];rw[Th,Am o O Cwx,z]
 ·rw[Tj,l,G,z,F,Cme h];rw[Ts,_,Cwx,z,GX s w];rw[Tk,c,m,U,R,t,F _ _ e];rw[TU,c,_,U,Cas R.1 R.2,t]
def Pq.aeh(p:KU)(r:RZ):Rf N B Hm d v:=Rf.gen p.ic r
def Pq.aei(p:KU)(r:Rf N B Hm d v):RZ:=Rf.gen p.aef r
def Pq.aej(p:KU)(r:Ro N B H d v):Ro N B Hm d v:=by cases d with|cell i=>show r|_=>show p.aeh r
def Pq.p_(p:KU)(r:Ro N B Hm d v):Ro N B H d v:=by cases d with|cell i=>show r|_=>show p.aei r
def Pq.aek(p:KU)(L:Pq qs H' Hm')(l:Ayo):Le B Hm B' Hm':=by
 rw[Ts,l.len,l.old,EA a o I G h,λi a C Y F G h=>?_];·rw[Tc,U,R,Anr a I (Cwx) h];rw[Th,DR (L.off a (p.no G)),R]
 ·rw[Tj,s,U,R,t,l.kd i a C _ _ G (p.up h)];rw[Ts,_,U,L.down R λ_ z=>(nomatch z),t]
theorem Pq.leU(p:KU)(L:Pq qs H' Hm')(S:SI B' Hm' st')(l:Le B Hm B' Hm'):Ayo:=by
 rw[Ts,l.len,l.old,EA a o I G D,λi a C Y F G D=>?_]
 ·rcases Pq.em _ a with⟨A,h⟩|h;·let e:=(p.at_ _ h).1;rw[TV,G];rw[Tr];rw[Th,(Bsz h).1,FC M];rw[Te,o,_,e,Cvn];rw[TV,(Bsz h).2];grind
  ·rw[Tc,U,R,Anr a I (DR (p.off a h)) D];rw[Th,L.up U,R]
 ·rw[Tj,s,U,R,t,l.kd i a C _ _ G (Bzb D z)];rw[Ts,_,U,L.up R,t]
theorem Pq.xrD(p:KU)(r:XR N B H x Y):XR N B Hm x Y:=by obtain⟨a,G,z,F,D⟩:=r;rw[TU,a,Cmg Ag,z,p.down F Ag,D]
end
section
variable{N:Nm}{B B':Bs}{H H':Hp}{st:sd}
theorem NB.take(h:Qt):Ckt (Brj):=Aj (λA=>h.1 (scw A)) Ck
def ael:∀a o,Afg=Aa->AM=Ai->Qt->AM=Ai/\NB (N.w EB) (Brj) a:=λ_ _ _ G z=>Aj G z.take
theorem Pn.take(h:Pn B H a o):Pn (Brj) H a o:=Aj Bk (λA=>h.2 (scw A))
theorem RS.take(n:Nat)(S:A_):SI (Brj) H (Cix):=by
 rw[TU,Aiz ug ug S.len,EA i c o G z,EA i j a G z,AV g J,AV T p]
 ·rw[sbg]at G z;rw[Tz,G];·rw[TF,h];rw[Ux,h,z];show RC.gen (g:=N.gh) ael (Kv) (Ahr c o G z)
  ·cases G
 ·rw[sbg]at G z;rw[Tz,G]
  ·rw[Tz,z];·show S.inj i j a G z
   ·cases z
  ·cases G
 ·rw[Th,(Bez g J).1,λA=>(Bez g J).2 (scw A)]
 ·rw[Tj,l,G,z,F,Cme p];rw[Ts,l,G,z,HK s w [Cri,F s w e,DL c m U R.take t]]
theorem Le.take(l:Ayo):Md (B'.take RJ) H':=by
 rw[Ts,by rw[ug];let:=l.len;omega,BV i a h e,λa o I G z=>Aj (Anr a I G z).1 (λA=>(Anr a I G z).2 (scw A)),λi a C Y F G z=>?_];·rw[sbg,NA]at e;show l.old i a h e
 ·rw[Tj,s,U,R,t,l.kd i a C Y F G z];rw[Ts,s,by rw[sbg,Av (Dj G).1];show U,R,t]
theorem Rf.take(r:RZ):Rf N (Brj) H d v:=Rf.gen (g:=N.gh) ael r
theorem Ro.of(Y:sfK d=Af)(r:Pa):Ro N B H d v:=by cases d<;>first|show r|cases Y
end
structure scP(L:yD)(x:Str):Al where
 kind:L.scope.kind=Oh
 co:Ddv L=Af
 gen:Ddw L=Af
 skh:∀y∈L.scope.names,y.2≠Adw
 loc:Bol x=Fy
 free:∀y,Bol y=Qa->y∈L.sG
 ski:∀y∈L.sG,Bol y=Qa/\y∈OW
 uq:∀y∈L.uo,Bol y=Qa
 bind:∀(clos:IG)(pm:Value)(c:Addr)(ctv u:Value),Csw (PySem.W.kla_fn Bbk Ng Bri Amh QK clos pm (RU) ctv) [u]=Ek [(x,u)]
def scQ(P:Program)(W:World)(K:PySem.W.Frag)(n:BG->EU)(C:Heap)(D:Dl)(L:Str)(B:Scope)(f:Addr)(O:Value)(M:IG)(a:Around)(X:Ox)(s:Shared)(H:Hp):Cx where
 prog:=P
 w:=W
 K:=K
 mg:=n
 base:=C
 A:=a.deeper (Byq L B f O M)
 N:=D
 wr:=s
 xv:=H
 env:=Byq L B f O M
 outer:=X
 stack:=Byq L B f O M::X
 ex:=[]
 calm:=true
 fn:=λx=>Agd x==Fy
 pn:=[]
 xe:=Bff
def aqr{clos:IG}(h:x∈clos.map Aci):∃c,clos.lookup x=AW:=by cases e:clos.lookup x with|some c=>rw[TY,c]|none=>rw[Te,q,G,z,zM.mp h];rw[TV,List.lookup_eq_none_iff];let:=e q G;rw[Tt,z];rw[XP]
def aqs:∀{M:IG}{x y:Str}{c:Addr},Cgd->Avw x=AW->Avw y=AW->x=y:=by
 intro M x y c k G H;let m:=u7 G;let P:=u7 H;induction M with
 |nil=>rw[Uk]
 |cons q r d=>
  rw[tz,yS]at k;rcases FI m with W|m<;>rcases FI P with N|P;·rw[<-W]at N;cases N;rfl
  ·rw[Ug,Bcx [HV,P,Cbd W],k.1]
  ·rw[Ug,Bcx [HV,m,Cbd N],k.1]
  ·let g:∀z,DX z c r->(z==CG)=Af\/True:=Auy [Bw,vH];clear g;rw[Td,O,(x==CG)=Aa];·rw[tX,O]at G;let:JU=c:=GF G;rw[Ug,Bcx [HV,m,this.symm],k.1]
   ·rw[Td,Q,(y==CG)=Aa];·rw[tX,Q]at H;let:JU=c:=GF H;rw[Ug,Bcx [HV,P,this.symm],k.1]
    ·rw[tX,uU _|>.mp O]at G;rw[tX,uU _|>.mp Q]at H;show d k.2 G H m P
section
variable{N:Nm}{B:Bs}{H:Hp}
def aem{M:IG}:∀{O:FD}{uo:Dl},LS (λd x=>∃k A u w,Avw x=Ja/\Pn B H k A/\NQ A=Atu/\Kl w/\Ro N B H d w) uo->∃(n:Qs)(l:Ba),Ah=LF/\uo.length=LF/\(Axf (Pn B H CG JU/\∃u,NQ JU=Atu))/\LS (Ro N B H) l/\∀(j:Nat)(x:Str),uo[j]?=Bi->∃k A u w,DX k A n/\Avw x=Ja/\NQ A=Atu/\Anh=Ae w/\Kl w
|_,_,.nil=>BF [] [] Ab Ab (λq Z=>(by cases Z)) BY [HK,j,x,Cxp e]
|_,_,.cons h t=>by
 obtain⟨k,A,u,w,G,z,F,D,L⟩:=h;rw[Vd,n,l,X,S,a,p,U,aem t];show[BF,(k,A)::n,w::l,Aiz sT sT X,Aiz sT sT S,AV q Z,Jo L p,GX j x]
 ·rcases FI Z with rfl|Z;·rw[Tp,z,u,F]
  ·show a q Z
 ·cases j with|zero=>rw[Ul,GF Bii];show⟨k,A,u,w,Bax,G,F,Ab,D⟩|succ j=>obtain⟨C,o,P,W,r,v,E,b,i⟩:=U j x Bii;show⟨C,o,P,W,Oo r,v,E,by simpa using b,i⟩
end
section
variable{N:Nm}{B:Bs}{H:Hp}
def Rp.p5(r:Ro N B H d v):Pa:=by cases d<;>first|show r|show r.elim
def p6:∀{l:LJ}{L:Eg d}{j:Nat},Bav F l L->Anh=Bi->∃y,L[j]?=Nc/\F x y|_,_,_,.nil,e=>Cxp e|_,_,0,.cons h _,e=>by rw[Ul,GF Bii];rw[Vh,h]|_,_,j+1,.cons _ t,e=>by rw[Te,y,G,z,p6 (j:=j) t Bii];rw[Tp,y,Dbj,z]
def aqt{K:PySem.W.Frag}{l:Ba}{qs:Qs}(J:scP L x)(hd:Bbp=Ad)(g:v5 P w K n C A X s H)(D:Cww=L.sG)(h5:Cgd)(hl:Ah=Aqc)(f:KQ)(F:Ama (Ev CG=Ayb/\H CG=Ad/\∃u,NQ JU=FX u))(a5:∀(j:Nat)(y:Str),L.uo[j]?=Nc->∃k ob u w,DX k ob qs/\Avw y=Ja/\Clu=Atu/\Anh=Ae w/\Kl w)(m:O.Ns AR (λy=>[(x,u)].reverse.lookup y))(Z:∀b o,HD=Ai->O.get? b=Ai):Inv (scQ P w K n C (x::OW) Ng QK a cd M A X s H) [] (Fj::Ci Aul) H {s with heap:=O,toks:=tk}:=by
 rw[TW,I,∀b:Fx,Aib (scQ P w K n C (x::OW) Ng QK a cd M A X s H).ex,b,z,Qi (Cvi b ([]:Ez))];let T:∀y c,Avw y=AW->∃o,Ev c=Ai/\H c=Ad/\∃u,IC=FX u:=HK y c (by
  let Q:y∈L.sG:=by rw[<-D];show Bcx [Oi,Cek]
  rw[Tc,j,hj,sas (J.ski y Q).2];obtain⟨k,ob,u',w',r,b2,E,d,b5⟩:=a5 j y hj;rw[e]at b2;cases b2;rw[Te,U,R,t,F _ r];rw[Ts,ob,U,R,t])
 show⟨⟨g.mod,J.kind,Ab,Ab,Ach,λy z c G h2=>aqs h5 G h2,AV y Q,BV y c G h2,Ej hd,Daf g,Bhg Ab,KW z [JA,z,(I b)],g.bs,g.wu,HM _ _ (I b),KW z [JA,z,(I b)],g.aN,g.vX⟩,Ab,PQ g,Un.kept Z,HV m [HF,i,y,S,G,h2,h3],Bz y c h,Cvb Do,Bz y c h,Kg [Qi,(Cvj p ([]:D_))],g.sv.kept Z,?_⟩
 ·let Q:Bol y=Hr\/Bol y=Qa:=Q;rw[Yg];·rw[T',Ab,(J.skh _ (u7 Q))]
  ·show aqr (clos:=M) [Eb,D,J.free y Q]
 ·let G:(Bol y==Fy)=Aa:=G;let h2:Avw y=AW:=h2;let Q:y∈L.sG:=by rw[<-D];show Bcx [Oi,u7 h2]
  rw[T_,(J.ski y Q).1];cases G
 ·cases i with
  |zero=>
   let W:x=y:=by simpa using(show(x::OW)[0]?=Nc from G)
   let e2:v=S:=by simpa using h2
   subst W e2;rw[Tp,u,f,FJ J.loc (by change[(x,u)].reverse.lookup x=BW;simp)]
  |succ j=>
   let W:L.uo[j]?=Nc:=by simpa using(show(x::OW)[j+1]?=Nc from G)
   obtain⟨k,ob,u',w',r,b2,E,d,b5⟩:=a5 j y W;let e2:S=w':=by
    let:(Ci Aul)[j]?=Apq S:=by simpa using h2
    rw[VW,tD,d];simpa using this.symm
   subst e2;rw[Tp,u',b5,Bw [Ds,Bw (J.uq y (tV W)),k,b2,ob,Z _ _ (F _ r).1,E]]
 ·rw[Tk,o,U,_,u',R,T y c h];rw[Ts,u',o,Z _ _ U,R]
 ·show(T y c h).choose_spec.2.1
 ·change IV Fj [Ci,Aul]=IV x OW;rw[sT,sT,sr,hl]
def aqu{K:PySem.W.Frag}{st:sd}(Ls:scP L x)(hr:tS (k+1) A)(g:v5 P w K mg C0 A X s H)(ha:Pn B H a (wG L M pm c H0))(hc:Pn B H c m)(cq:zu m Ng)(h4:Cww=L.sG)(h5:Cgd)(h6:LS (λd x=>∃k ob u w,Avw x=Ja/\Pn B H k ob/\Clu=Atu/\Kl w/\Ro N B H d w) OW)(f:KQ)(rd:Ro N B H d v)(S:A_)(vK:Aqc<90)(hB:∀H,wH N (scQ P w K mg C0 (x::OW) Ng QK a (RU) M A X s H) EF [Ks,D0] Amh eb)(I0:Aki D0 eb (Ea::Aqf)=Ew d' G0)(pd:t4 d'=Aa)(Y0:∀v' H' B',Ayo->SI B' H' G0->Rf N B' H' d' v'->Q v' H'):Ams (Bib P) A [Bgx,Gk,Ks [u]] (CR CX X P w H s Q E) s:=by
 rw[Vd,n,ws,a1,a2,a3,a4,U,aem h6];let p:Pq n H (wj H n):=kE λq Z=>(a3 q Z).1.1;rw[TW,cs,sf2 n,q,Z,let⟨u,e⟩:=(a3 q Z).2;Ke e];rw[TW,F,Axf (Ev CG=Ayb),q,Z,(g.sv _ _ (a3 q Z).1.1).1];let O0:Ev a=As (wG L M pm c H0):=(g.sv _ _ ha.1).1;let J0:Ev c=Ae m:=(g.sv _ _ hc.1).1;let X0:Crc:=Daj (g.bs b o e).1;obtain⟨vs,t,hd,hv⟩:=cq;let W:v5 P w K mg C0 A X s (wj H n):=[DB,Ahv g,g.mod,MF [Aj,(g.bs b o e).1,p.none (g.bs b o e).2],g.wu,g.aN,Acb (p.none (g.vX b T)),p.pX g.sv,PQ g];show PySem.W.kla_callFunE hr.depth O0 Ab Ls.co Ls.gen Ab [DB,c,m,vs,t,Ab,J0,hd,hv] ?_;rw[Ls.bind];show Fv (wpAny_newFunctionEnv Ls.skh (AV y hy) (λV0 Q0 E0=>FY (X0.fresh _ E0)) Ls.kind)
 ·rw[VM,y=(x,u),by simpa using hy]
  show Ls.loc
 change Ams _ _ (.expr Amh (Byq Ng QK a (RU) M)) _ _;let P0:∀b o,HD=Ai->V0.get? b=Ai:=MF (E0.extBut b o (uQ (PD)) (Aiq));rw[Te,t',pt,qt,hB (wj H n)];let I:=aqt (a:=a) (cd:=RU) (tk:=Adk+AG [(x,u)]) Ls hr.hd W h4 h5 (a1.trans a2.symm) f (λq Z=>[Am,F q Z,(Bdf Z).2,cs q Z]) U Q0 P0;let hE:RE N [] B (wj H n) (Fj::ws.map Aul) (Ea::Aqf):=by
  rw[Ts,CO a1,Crf,Bz i e Y,Aba hp (by cases hp)];cases i with
  |zero=>cases Y;rw[Vu,v,Rp.p5 (p.aej rd)]
  |succ j=>
   rw[TC,Core.uj,Y];rw[sfc,tD]at Y;cases C:O[j]? with
   |none=>rw[C]at Y;cases Y
   |some D=>
    rw[C]at Y;rw[VM,D=e,by rw[XG]]
    rw[Te,G,b1,b2,p6 a4 C];rw[Tp,G,Cmk sfc tD b1,Rp.p5 (p.aej b2)]
 show PySem.W.kla_codeExpr (OO (pt [] _ _ _ (λv' l0=>∃B',Le B (wj H n) B' l0/\SI B' l0 G0/\Rf N B' l0 d' v') I (qt _ _ B (Ea::Aqf) st _ hE (p.pZ cs S) ?_)) (Bz v' s' hs) e s' h h.elim);·change sW N B (wj H n) _ EF (Aki D0 eb (Ea::Aqf));rw[I0];showλv' H' B' l z r=>AO B' l z (r.pure pd)
 ·obtain⟨v2,l0,J,r2,B',l,z,r⟩:=hs;rw[TW,fr,Axf (l0 CG=Ad),q,Z,J.base.free CG JU (F q Z) (Bdf Z).2 Dfx];let p':Pq n (yI l0 n) l0:=aec (λq Z q' U0 e=>by let z1:=F q Z;rw[e,F q' U0]at z1;show Cdd z1) fr;rw[TW,W0,Axf (Byn CG=Ayb),q,Z,J.base.keep CG JU (F q Z) (Bdf Z).2 (λR=>by let:=g.vX CG R;rw[Tt,(a3 q Z).1.1];rw[Ve]) Dfx];show[DB,v2,yI l0 n,J.os,PQ J,p.unU p' J.base,p'.aed J.sv W0,r2,Y0 v2 _ B' (p.leU p' z l) (p'.aeg z) (p'.aei r)]
end
def siq(N:Nm)(P:Program)(w:World)(K:PySem.W.Frag)(n:BG->EU)(C:Heap)(c:Core.uF)(k:Nat)(x:Str)(f:Nat)(L:yD):Al:=scP L x/\Aqc<90/\∃(b:Core.uF)(m:Nat)(l:Core.E),(∀d O st,LF=Aqc->c f (d::O) st=SQ Iv [Bes,b,NV l,(Ea::Aqf),st])/\∀a B M A X s H,tS k (Bkh (Byq Ng QK a B M))->wH N (scQ P w K n C (x::OW) Ng QK a B M A X s H) EF [Ks,b] Amh l
section
variable{N:Nm}{X:Cx}{E:XK}{cl:Cl}{B:Bs}{H:Hp}{st:sd}{Q:VK}
def aqv(h:SQ n [Bes,c,NV e,A,st]=Jd s):∃S,Aki c e A=Jd S/\Abi=Aa/\s=S.take n:=by
 rw[TM,SQ n [Jg,[Jg,Aki c e A,v,Aam (Core.yq.ret v)],i,[Bxn,Aam (Core.yq.next A),Aam (Core.yq.ret d)]]=Jd s];cases Y:Aki c e A with
 |ok D S=>
  rw[Tg,Y];rw[TM,([Aub,t4 D=Aa,SG D (S.take n)])=Jd s];rw[Td,C,t4 D=Aa];·rw[Vq,C];rw[XY];subst G;rw[Ts,S,Ab,C,z.symm]
  ·rw[UY,C];rw[Tf]
 |err x S=>rw[Tg,Y];rw[Tf]
 |stuck=>rw[Tg,Y];rw[Tf]
def aqw(hr:HZ (k+1))(hL:∀f L,Bgw f=Aoz->siq N By BD Ar Fp DH cl k kx f L)(hv:DF Aqh (Bfd))(hi:DX i 102 CP)(P:tu pe=Aa)(ha:Qo N X E [pe] (EJ e)):Bc (Jp [pe] P0) (.wV (Ael) (EJ e)):=by
 rw[XI,t,pa,q];show[Aho,λD H Q=>∃B A st,Akf/\A_/\De [M_,(.wV (Ael) (EJ e))],λD H B A st Q hE S h=>Ds B A st hE S h];intro G0 s D H Q I Z;obtain⟨B,A,st,hE,S,h⟩:=Z;rw[Te,d0,g,T,hE.ty (i,102) hi];let T:sfK d0=Aa:=T;cases d0 with
 |sG f O=>
  rw[Te,v0,U,R,hE.at_ i _ g];obtain⟨a,L,c,oc,E0,pm,H0,rfl,O0,h1,h2,F,h4,h5,h6⟩:=R;rw[Vd,Ls,vK,Q0,m,eb,hc,hB,hL f L O0];rw[US,[Ms,LA (Aiy A),MZ (EJ e) A,C,(Cxz [Asl,C,st] [Ajb,QG=Aa,(Asl (C++J) st).wZ])]];rw[Tg,g];rw[US,Ru (EJ e) A C [Ajb,QG=Aa,(Asl (C++O) st).wZ]];show xx [Cr,hv G0 s D H (λv n=>v=Be/\n=H) I [Blw,U],λu s1⟨y,n,I1,r,W,e2⟩=>?_];subst W e2;obtain rfl:u=Be:=r;rw[TW,fa,∀{s':Shared}{M:Hp},vi By BD M Agy->M a=Cfd (wG L E0 pm c H0) (Lu 0)->PySem.W.FnAt a Agy,hk,e,DL _ _ _ _ (hk a _ e).1];show PySem.W.callWith_F (first:=[]) (fa I1.sv h1.1) [Cr,pa P0 G0 s1 D n (λJ j=>∃B1 l0 y v,J=[v]/\Le B n B1 j/\SI B1 j l0/\Ro N B1 j y v/\Su B1 j ((Asl (y::O) l0).wZ)) I1 (q D n B A st _ hE S (Bbu λys l0 W J j B1 l1 o r1 b=>?_)),λus s2⟨J,j,G,r2,B1,l0,y,v,W,l1,o,ry,b⟩=>?_] (aC P) Ab
  ·let W:(Ms Anl [Aam,[]] C [Ce,x::C])=Ew ys l0:=W;cases Y:Anl with
   |ok y D0=>
    rw[Y]at W;let W:SG [y] D0=Ew ys l0:=W;injection W with e2 e3;subst e2 e3;cases r1 with
    |cons r1 t=>
     cases t;rw[Td,hp,t4 y=Aa];·rw[Ux,(by rw[xz,hp];rfl),b];show⟨B1,D0,y,_,Ab,l1,o,Ro.of (by cases y<;>first|rfl|cases hp) r1,b⟩
     ·rw[Uz,(by rw[xz];simp[hp]),b];show b.elim
   |err x D0=>rw[Y]at W;cases W
   |stuck=>rw[Y]at W;cases W
  ·subst W;rw[UT,eu,rv,vals1 r2];subst eu;rw[Uf,fa G.sv (h1.mono l1).1];cases C0:Asl (y::O) l0 with
   |ok d' D0=>
    rw[C0]at b;let J0:LF=Aqc:=h6.length;rw[hc y O l0 J0]at C0;rw[Tj,U0,I0,pd,rfl,aqv C0];show saP (Bts (aqu (CX:=λ_ _ _ _ _ _=>Agm) (E:=E) (Q:=Q) Ls hr G.gd (h1.mono l1) (h2.mono l1) F h4 h5 (Brd h6 λd x⟨k,ob,u,w,z1,z2,z3,z4,z5⟩=>⟨k,ob,u,w,z1,z2.mono l1,z3,z4,Ro.wide (g:=N.gh) l1 [KJ,h,OJ] z5⟩) rv ry o vK (λH=>hB a (RU) E0 GT Oc s2 H (hr.deeper _)) I0 pd (HF v' M B' l z r)) r s' Z);·let:=b v' M (B'.take [AG,B1]) l.take [Eb,o.len,Cia] (Ayt r.take);rw[TQ]
    ·cases r with|error e=>show Z.elim|ok fl=>cases fl with|ret u=>show G.after Z|next=>show Ajy|brk=>show Ajy|cont=>show Ajy
   |err x D0=>rw[C0]at b;show b.elim
   |stuck=>rw[C0]at b;show b.elim
 |_=>cases T
end
abbrev vT(o:Obj):HO:=.ao o (Lu 0)
def skj(L:yD)(T:Addr)(M:IG)(X:Value)(f:Pos):TE:=LU H Q (∃l,H T=Acx l/\TriplesOk Cwn/\(∀w,Cgt f l=Ae w->∃c m,w=RU/\H c=As (vT m)/\zu m Ng)/\(Cgt f l=Ad->∀a c m j,zu m Ng->H c=Ad->AM=Ad->a≠c->Q Gk [Kf,Bai (.uO (l++#[Acu [Fu,f],Acu f.col,RU])) c,a,vT (wG L M X c j)])/\∀c m a j,Cgt f l=Ex c->H c=As (vT m)->AM=Ad->Q Gk (HG (vT (wG L M X c j))))
section
variable{X:Cx}{pins:List (Addr×Obj)}{σ:L2.St}{H:Hp}{s:Shared}
theorem Inv.lam{c a:Addr}(I:Bll IQ σ H s)(p:H T=Acx l)(J:∃B,P=l++B)(O:Byo T Bg)(k:AR<=c)(x:c<Aid)(L:QX c=Ae m)(S:QX T=Bug BM P)(M:a=Aid)(w:h.isFreed=Af):Bll IQ σ [Kf,Bai (.uO P) c,a,vT h] {s with heap:=g.push h,toks:=Y}:=by
 subst M;let D:T<AR:=I.sv.lt p;let f:H c=Ad:=Akn k;let r:H Aid=Ad:=Akn (sby (sdG k x));rw[Tq,N,H T≠Ad]
 let i:GJ Aid:=uQ x;let E:T≠c:=uQ (MD D k);let A:T≠Aid:=uQ (MD D (sby (sdG k x)));let t:∀b,EW T->EW c->EW Aid->sU [Bai,(.uO P),c] Aid (vT h) b=BX:=I_ G Q F Bbb
 let U:∀b o,BX=Ai->zr o=Af->sU [Bai,(.uO P),c] Aid (vT h) b=Ai:=Aih e W [DR,t b [GK,by rw[z,p]at e;rw[Tr];cases W] [GK,Aq] [GK,Aq]]
 let Z:∀b o,EW T->HD=Ai->QN (g.push h) b=Ai:=Pj G [SD,(O b o G e)];let y:sU [Bai,(.uO P),c] Aid (vT h) T=Acx P:=by grind[ai,ac]
 show I.un (t':=Y) [BF,λb o e n _ _=>Z b o [GK,N Ag] e,λb o e n _ _=>Aj o.slots (Z b o [GK,N Ag] e),EA b o e n _,BV b o e _,Rx C (U b _ e Ab),Pj u (U b _ e Ab),MK qs] [MK,u];·let R:=PD;grind
 ·rw[YU]
 ·rw[Td,R,b=T];·grind
  ·rw[Th,#[],Bfr (t b R [GK,Aq] [GK,by rw[z,r]at e;rw[Tr]]) e]
 ·rw[Va,b=Aid];·subst G;rw[TV,ac];rw[Tr];rw[Tp,zG _ w,_,zG _ w]
  ·rw[Td,Q,b=c];·subst Q;rw[ai G,ac]at e;rw[Tr];rw[Tp,SD L,_,SD L]
   ·rw[Td,F,b=T];·subst F;rw[TV,y];rw[Tr];show SD S
    ·rw[TV,t b F Q G];show(I.sv b u e).cX (λd v j q=>Z d v (Axc) q) (λd q=>U d _ q Ab) λd C q=>U d _ q Ab;rcases j with j|j;·show F (j.symm.trans z)
     ·rw[z,p]at j;cases j
def aqx(hq:Cty++Bbk=Ng)(U:Bqh Bri Di=Bww)(n:Bjj QK Di=Ek M)(o:Ctz=Be)(C:Bxz DH a T)(C0:LZ≠T)(hb:Cpw T):[Ef,.Lambda Bri Amh QK lpos,skj L T M ((Afo Biz).getD BM) lpos]:=by intro pins s σ H Q I h;obtain⟨l,G,z,F,D,h5⟩:=h;let q:=Asj T G;let l0:=I.ok.mod.glob.keeps I.bk;let p:s.heap.BuiltinsAt _ T:=let⟨bm,A,b1,v,E,d,i,R⟩:=hb;DB _ _ b1 v E d (I.bk _ _ i) R;show PySem.W.kla_eval U ?_;rw[hq];cases hc:codeAmong .. with|none=>show PySem.W.kla_makeFunction n Civ l0 o (C.keeps I.bk) q z hc C0 p λc j g B hx k x W S=>?_;obtain⟨P,m,J,t,N,f,hd,O⟩:=W;cases N;show Bcm Amy (Inv.lam I G SE hx k x f S Ab Ab) Ab;show D hc _ c _ _ [Ky,t,hd,O] (Akn k) (Akn Ac) Ag|some w=>rw[Vn,c,m,Y,y,F _ hc];show PySem.W.kla_makeFunctionHit n Civ l0 o (C.keeps I.bk) q z hc p [EA,j,g,B,Z,r];show Bcm Amy (I.laid (Rx u [SD,(Z b u e)]) r (o:=vT _) [Am,IE,_,IE]) Ab;show h5 c _ _ _ hc Y (Akn r)
end
section
variable{N:Nm}{B:Bs}{H:Hp}{st:sd}
def aqy{f:Pos}(l:BA)(h:TriplesOk l)(e:codeAmong s (l++[Acu [Fu,f],Acu f.col,c])=Ae w):codeAmong s l=Ae w\/w=c:=by fun_induction TriplesOk l with|case1=>grind[List.nil_append,codeAmong,rawInt]|case2 a t b u x rest d=>grind[codeAmong]|case3 l G z=>grind
def aqz(S:A_)(p:DX T Ng N.tb)(x:Coq (CG=r.1->q=r))(h:∀a c m j H',Md B H'->Aum N H'->Pn B H' a (wG L l0 X c j)->Pn B H' c m->zu m Ng->Q Gk H'):skj L T l0 X lpos D H Q:=by
 rw[Tj,l,G,h2,F,S.gh.2 _ p];let G:H T=Acx l:=G;rw[Tx,v,Ae T∉B,hm,[Bzr,i,e,sas hm,S.o8 e l G]]
 show[Ds,l,G,h2,λw e=>[Cri,F lpos w e,DL c m U R.1 t],λf a c m j y hc M C0=>?_,λc m a j f hc M=>?_]
 ·rw[UF,E,c,T,e,Aq]
  rw[UF,aT,a,T,e,Aq]
  let D0:sU H T (.uO (l++#[Byb,Bpo,RU])) c=Ad:=by grind[ai]
  let Z:Md B [Kf,Bai (.uO (l++#[Byb,Bpo,RU])) c,a,vT (wG L l0 X c j)]:=by
   let k:∀b o,BX=Ai->zr o=Af->sU [Bai,(.uO (l++#[Byb,Bpo,RU])),c] a (vT (wG L l0 X c j)) b=Ai:=Aih e I [Acm,Adp [Jt,Aq],Adp [Jt,Aq],Adp [Jt,by rw[z,G]at e;rw[Tr];cases I]]
   rw[Ts,Ach,λ_ _ _ e=>e,λb o I e A=>Aj (k b o e I) A,λi b C Y fs W e2=>AO fs W (k b _ e2 Ab) Ab]
  let k:∀b,EW T->EW c->EW a->sU [Bai,(.uO (l++#[Byb,Bpo,RU])),c] a (vT (wG L l0 X c j)) b=BX:=I_ G h2 F Bbb
  let pc:Pn B [Kf,Bai (.uO (l++#[Byb,Bpo,RU])) c,a,vT (wG L l0 X c j)] c m:=Aj [Hy,Awp C0,ac] (S.cy hc).1;show h a c m j _ Z [DL,S.len,λi cc u W e2=>RC.mono Z.fz (AV b eb) (Ahr cc u W e2),S.inj,AV g hg,AV q hq] [Aj,ac,(S.cy M).1] pc y;·subst eb;show k b [GK,v Ag] [GK,(S.cy hc).1 Ag] [GK,(S.cy M).1 [Bfy,z,tV e2]]
  ·rw[Tc,⟨o,hv,e⟩,A,Bez g hg];rw[Th,Am o hv (Z.fz g o (o7 hv) e A).1,A]
  ·rw[Tj,n,W,e2,J,S.gh.2 q hq];rw[UG,CG=T]
   ·let:=x q hq _ p z;rw[VF];let W:H T=Acx n:=W;rw[G]at W;cases W;show⟨l++#[Byb,Bpo,RU],by change sU (sU (Aeo _) c _) a _ T=_;rw[Awp aT,Awp E,ac],?_,GX s w⟩;·rw[Array.toList_append];show TriplesOk_snoc _ _ _ _ h2
    ·rw[TV,Array.toList_append];rcases aqy Cwn h2 e with e|e;·rw[Tk,P,d,w1,O,w3,J s w e];rw[TU,P,d,w1,O.mono Z,w3]
     ·rw[TU,c,m,e,pc,y]
   ·rw[Ts,n,by rw[k CG z [GK,by rw[z,hc]at W;cases W] [GK,by rw[z,M]at W;cases W]];show W,e2,GX s w];rw[Tk,P,d,w1,O,w3,J s w e];rw[TU,P,d,w1,O.mono Z,w3]
 ·rw[Tk,P,d,U,R,t,F lpos _ f];cases U;let Z:=cf (o:=vT (wG L l0 X c j)) S M;show h a c d j _ Z (S.new M) [Aj,ac,(S.cy M).1] (R.mono Z) t
end
section
variable{N:Nm}{X:Cx}{E:XK}{cl:Cl}{B:Bs}{H:Hp}{st:sd}{Q:VK}{pins:List (Addr×Obj)}{σ:L2.St}{s:Shared}{τ:List (Nat×Nat)}{ρ:Core.sM}
def aqA(h:yp d=Aa):sfK d=Af:=by cases d<;>first|rfl|rw[Tf]
theorem Ro.mono(l:DV)(r:Ro N B H d v):Ro N L M d v:=wide l Ag r
def aen(I:Bll IQ σ H s)(R:RE N τ B H σ ρ):∀{D:Ak}{C:Dl}{O:FD},Bav (Jl x (Mj=Bi/\NM=Hr/\Ow=Aa)) D C->Cnv=Ae O->Bgu yp=Aa->∃n:Qs,(Axf (Ev CG=Ayb/\H CG=Ad/\(∃u,NQ JU=Atu)/\Aup<=CG/\CG≠Ki))/\LS (λd x=>∃k A u w,KO=Ja/\DX k A n/\NQ A=Atu/\Kl w/\Ro N B H d w) C
|[],_,O,.nil,h,_=>by
 rw[VM,[]=O,Cot]
 rw[Tp,[],λq Z=>(by cases Z),BY]
|i::D,x::C,O,.cons F t,h,L=>by
 rw[Tg,List.mapM_cons];cases g:Aiy ρ with
 |none=>rw[Tg,g];rw[Tf]
 |some d=>
  rw[Tg,g];cases G:Cnv with
  |none=>rw[Tg,G];rw[Tf]
  |some a=>
   rw[Tg,G];rw[VM,d::a=O,Cot]
   rw[Vp,L];rw[Te,n,M,S,aen I R t G L.2];rw[Te,v,P,T,R.at_ i d g];rw[WP,f,U];rw[UT,r,b,U i x v F.1 P (Bw (AK F.2.1))];rcases b with⟨k,_⟩|⟨_,c,W,A,e,J⟩;·let k:NM=Fy:=k;rw[F.2.1]at k;cases k
   ·rw[Tp,(c,A)::n,AV q Z,Jo ⟨c,A,u,v,W,Bax,J,r,Ro.of (aqA L.1) T⟩ (Brd S λd x⟨k,A,u,w,z,l,y⟩=>BF k A u w z [Oo,l] y)];rcases FI Z with rfl|Z;·rw[TU,e,Bmp x W,Aj u J,Cbw c F.2.2 W,I.cA x c W]
    ·show M q Z
end
section
variable{N:Nm}{X:Cx}{E:XK}{cl:Cl}{B:Bs}{H:Hp}{st:sd}{Q:VK}{pins:List (Addr×Obj)}{σ:L2.St}{s:Shared}{τ:List (Nat×Nat)}{ρ:Core.sM}
def Pq.aeo(p:Pq n H g)(r:Afu B g d v):Pa:=by cases d with|sG f O=>obtain⟨a,L,c,m,M,P,j,rfl,W,G,z,F,D,h,I⟩:=r;show⟨a,L,c,_,_,_,_,Ab,W,Cas G.1 G.2,Cas HI Hf,F,D,h,Brd I λd x⟨k,A,u,w,U,R,t,i,q⟩=>⟨k,_,u,w,U,Cas R.1 R.2,t,i,p.p_ q⟩⟩|_=>show Rp.p5 (p.p_ (Ro.of Ab r))
theorem Pq.tyU(p:Pq n H g)(h:Ty N B g c d):Ty N B H c d:=by
 rw[Wn,Ty,h];rw[Tn];·rw[TF,L];rw[Av L];obtain⟨k,a,Y,I,e,G,z,R⟩:=h;show DB k a Y I e G (p.up z) R
 ·rw[TF,L];rw[AF L];show h
def aqB{stack:Ox}{B:Heap}(p:Pq D H g)(F:∀q∈D,Ev CG=Ayb)(R:scJ P w I Bvp H s (λc Y M=>E c Y (wj M D)) a C Y M B i d):scJ P w I Bvp g s E a C Y (wj M D) B i d:=by
 let L:=kE λq Z=>R.un.uC _ _ _ (Bdf Z).1;show⟨R.os,PQ R,p.aee L R.un R.sv F,L.pX R.sv,R.yH,Rx u (R.vE b u (L.up e)),EA b o e n T,L.none R.no,R.sin,R.e⟩;rcases Pq.em _ b with⟨A,h⟩|h;·rw[Te,G,W,O,R.vE b _ (Bsz h).1];let J:=(R.sv b _ (Bsz h).1).1;grind
 ·show R.old b o e [Dct,Caa h] T
def aep{g:BG->Fx}:∀{l:Dl},y∈l->JK (Bdd x (x,g x)) y=As (g y)
|[],h=>JA h xU
|x::l,h=>by
 rw[tz,tX];rw[Um,y=x];·rw[Uo];rw[sfM]
 ·rw[Arl e];show aep ((FI h).resolve_left e)
def aqC:([Ru,Sm W P [FA,.lam g D],ρ,C,Asl C st])=([Ms,Aki cl W ρ,Aki cl P ρ,y,(Cpj Cnv [Bo,Ckd=Aa,Asl [x,y,.sG g J] st,AJ])]):=by
 change Kx [Ph,Aus,Kx [Boe,Aus,y,[Boe,Cpj Cnv [Bo,Ckd=Aa,Aam (Core.D.sG g J),AJ],z,Aam [],j,Ce (z::j)],O,Ce (y::O)]]=_;cases Aus with
 |ok x S=>
  change Kx [Kx,Bdb]=Bdb;cases Aus with
  |ok y u=>
   cases D.mapM (Core.uj _)with
   |none=>rfl
   |some J=>
    rw[Td,L,Ckd=Aa];·simp[sA.bind,L,tF]
    ·simp[L];rfl
  |err e u=>rfl
  |stuck=>rfl
 |err e S=>rfl
 |stuck=>rfl
def sir(τ T:Ayn)(R:Es):Bh:=T.all λp=>(Ax==2&&BE==102)||(Bl Ax 2&&[Czz,sfP R Ax,τ.contains (i,BE)])
def aqD(F:sR By BD Ar Fp DH (sbi By BD Z1) kF Ig fd ps (wh N cl f 3 J0))(hr:HZ kF)(hg:Ii)(hm:ID=Ex Ig)(hk:Amb Ar Ig=Aa)(hb:Bgs)(hx:Beu (sbi By BD Z1))(hd:Gu=Af)(V1:∀O st d G0,Asl O st=Jd G0->Abi=Aa)(ht:sir CP J0 [LV,c1,c2]=Aa)(V0:tu a1=Aa)(W0:tu a2=Aa)(D1:Bc a1 c1)(F1:Bc a2 c2)(hL:Bgw g=Aoz)(Z:Cty++Bbk=Ng)(U:Bqh Bri Di=Bww)(N1:Bjj QK Di=Ek (L.sG.map λx=>(x,Amq (KO))))(P1:Ctz=AC cc)(C:Bxz DH cc T)(Q1:LZ≠T)(J1:Cpw T)(hT:DX T Ng N.tb)(nT:Coq (CG=r.1->q=r))(U1:L.sG.Nodup)(Q0:∀y∈L.sG,Afs y=Hr)(M1:∀y∈L.uo,y∈L.sG)(T1:Bav (Jl x (Mj=Bi/\NM=Hr/\Ow=Aa)) is OW):Bc (Jp [a1,a2,.Lambda Bri Amh QK X0] D2) (FW f c1 [LV,c2,(.lam g is)]):=by
 obtain⟨t1,p1,q1⟩:=D1;obtain⟨t2,p2,q2⟩:=F1;show[Aho,λσ H Q=>∃B ρ st,RE _ _ _ _ _ _/\SI B H _/\Bxf _,λσ H B ρ st Q hE S h=>Ds B ρ st hE S h];intro pins s σ H Q I Y1;obtain⟨B,ρ,st,hE,S,h⟩:=Y1;rw[US,Kx (uy _ _ _ _)];rw[Tg,aqC];let pa:=bL p1 (bL p2 (bL (aqx (lpos:=X0) Z U N1 P1 C Q1 J1) cY Ab) (aC W0)) (aC V0);show xx (Bei hg hm hd);show Deh Bpd hk [Cr,pa D2 IQ s σ H (λJ n=>∃W C0 D d2 v1 v2 O a c m E0,J=[v1,v2,Be]/\Md W n/\SI W n C0/\Afu W n D v1/\Afu W n d2 v2/\is.mapM (Cpm)=Ae O/\Bgu yp=Aa/\(∀p∈J0,∃d,[D,d2,Core.D.sG g O][Ax]?=Ea/\Ty N W n BE d)/\Pn W n a (wG L (L.sG.map λx=>(x,Amq (KO))) ((Afo Biz).getD BM) c E0)/\Pn W n c m/\zu m Ng/\Su W n (Asl [D,d2,.sG g O] C0)) I ?_,λus s1⟨J,n,A,r,W,C0,D,d2,v1,v2,O,a,c,m,E0,ev,l1,S1,r1,r2,gm,nc,ty,pa,pc,cq,Y⟩=>FY A.aF] (aC V0) (kj (by rw[xz,W0];rfl))
 ·show q1 σ H B ρ st _ hE S (QY λD C0 e1 v1 n W l1 S1 r1 G=>?_);show q2 σ n W ρ C0 _ (Ctv) S1 (Arz λd2 I0 e2 v2 H2 B2 l2 S2 r2 h2=>?_);cases gm:is.mapM (Cpm)with
  |none=>rw[gm]at h2;show h2.elim
  |some O=>
   rw[gm]at h2;rw[Vb,h2];rw[Td,nc,Bgu yp=Aa]
   ·rw[Ux,nc,h2];show aqz (lpos:=X0) S2 hT nT λa c m E0 H3 l3 S3 pa pc cq=>?_;show⟨B2,I0,D,d2,v1,v2,O,a,c,m,E0,Ab,DT (l1.trans l2) l3,S3,(r1.mono l2).mono l3,r2.mono l3,Ab,nc,JQ,pa,pc,cq,h2.mono l3⟩;rw[TC,sir,ht];rw[tZ]at ht;let z:=ht p Y;rw[vc,si,si]at z;rw[Xt]
    ·rw[Tq,z1,Ax=2]
     rw[Tq,z2,BE=102]
     rw[z1,z2];rw[Vh,Ab]
    ·let zz:=Hf;rw[Tz,zz]
     ·rw[UE,i,hi];rw[Te,d,w1,w2,hE.ty (i,BE) (Amo zz)];let w2:=((w2.mono l1).mono l2).mono l3;let J2:=Cm HI;let O0:∀{c:Core.E}{d':Core.D}{st G0:sd},Aki cl c ρ=Ew d' G0->c=Ael->d'=d:=λ{c d' st G0}e ec=>by subst ec;let e:LA (Aiy ρ)=Ew d' G0:=e;rw[TV,w1];injection e with e _;show e.symm
      cases U0:Ax with
      |zero=>rw[U0]at hi;let:=O0 e1 (GF hi);rw[Tp,d,by rw[<-this];rfl,w2]
      |succ j=>
       rw[Uc,hj,j=0]
       subst hj;rw[U0]at hi;let:=O0 e2 (GF hi);rw[Tp,d,by rw[<-this];rfl,w2]
     ·cases zz
   ·rw[Uz,nc,h2];show h2.elim
 ·subst ev;rw[Te,qs,l0,Y0,aen A (Ctv) T1 gm nc];let kq:=λq Z=>(l0 q Z).1;rw[TW,cs,sf2 qs,q,Z,let⟨u,e⟩:=(l0 q Z).2.2.1;Ke e];let P:=aec (λq Z q' X1 e=>by let z1:=kq q Z;rw[e,kq q' X1]at z1;show Cdd z1) λq Z=>(l0 q Z).2.1;let nB:Ama (Ae CG∉W):=λq Z hm=>by rw[Te,o,_,e,S1.bv hm];rw[TV,(l0 q Z).2.1];rw[Tr]
  let e0:=A.gd;let C1:∀b∈Ast,Ama (CG≠b):=λb hb q Z e=>by
   rw[XE,FI (A.eK b hb)];·show(l0 q Z).2.2.2.2 (e.trans z)
   ·rw[Tj,_,o,ho,_,A.ok.aN.mem z];rw[Ug,uP ho,(Crn (by rw[<-e];show(l0 q Z).2.2.2.1))]
  let e1:v5 By BD Ar Fp DH GT Oc s1 (yI n qs):=by
   show[DB,Ahv e0,e0.mod,MF [FY,(e0.bs b o e).1],e0.wu,e0.aN,AV b hb,P.aed e0.sv kq,PQ e0]
   ·rw[<-P.off b [Bz,q,Z,z]];·show(e0.bs b o e).2
    ·rw[Ug,Bfa A.ok.wu,(Crn (by rw[<-z];show(l0 q Z).2.2.2.1))]
   ·rw[<-P.off b (C1 b hb)];show e0.vX b hb
  let sp:wh N cl f 3 J0 [v1,v2,Be] (yI n qs) (λv M=>Q v (wj M qs)) λc dx M=>E c dx (wj M qs):=by
   show⟨Ab,EB,[D,d2,.sG g O],W,C0,Jo (P.aeo r1) [NT,(P.aeo r2),(.cons ?_ BY)],P.aeg S1,Kg (let⟨d,w1,w2⟩:=ty p Y;Am d w1 (P.tyU w2)),?_⟩
   ·show⟨a,L,c,m,_,_,E0,Ab,hL,Aj (P.up pa.1) pa.2,Aj (P.up pc.1) pc.2,cq,Cb sO (List.map_id'' (Arv) _),?_,?_⟩;·rw[sO];show sfu.mpr (List.Pairwise.imp_of_mem ?_ U1);intro y z hy hz ne e;rw[Tc,k1,e1,A.ok.has y (AK (Q0 y hy))];rw[Tc,k2,e2,A.ok.has z (AK (Q0 z hz))];let e:Amq (Baj y)=Amq (Baj z):=e;rw[e1,e2]at e;let e:k1=k2:=e;rw[<-e]at e2;show ne (A.ok.inj y z k1 e1 e2)
    ·let C2:∀{O:FD}{xs:Dl},(∀y∈xs,y∈L.sG)->LS (λd x=>∃k ob u w,KO=Ja/\DX k ob qs/\Clu=Atu/\Kl w/\Ro N W n d w) xs->LS (λd x=>∃k ob u w,JK (L.sG.map λx=>(x,Amq (KO))) x=Ja/\Pn W (yI n qs) k ob/\Clu=Atu/\Kl w/\Ro N W (yI n qs) d w) xs:=by intro O xs hy t;induction t with|nil=>show BY|cons h t ih=>obtain⟨k,ob,u,w,z1,z2,z3,z4,z5⟩:=h;show Jo ⟨k,ob,u,w,?_,Aj (P.at_ _ z2).1 (nB _ z2),z3,z4,P.p_ z5⟩ (ih λy h=>hy y (Oo h));rw[aep (hy _ RO),z1];rfl
     show C2 M1 Y0
   ·rw[Tx,D0,∀{M:Hp}{B':Bs},Le W (yI n qs) B' M->Pq qs M (wj M qs),l,kE λq Z=>(l.fz _ _ Ab (P.at_ q Z).1 (nB q Z)).1];cases H0:Asl [D,d2,.sG g O] C0 with|ok d I0=>rw[H0]at Y;showλv M B' l S' r'=>Y v _ B' (P.aek (D0 l) l) ((D0 l).pZ cs S') (Ayt ((D0 l).aeh (r'.pure (V1 _ _ _ _ H0))))|err x I0=>rw[H0]at Y;showλc dx M B' l S' r'=>Y c dx _ B' (P.aek (D0 l) l) ((D0 l).pZ cs S') ((D0 l).xrD r')|stuck=>rw[H0]at Y;show Y.elim
  let hl:Cup=Bqg:=by rw[<-Ic];show F.len _ _ _ _ sp
  let P0:=hb s1 us A.aF (by rw[ud];show hl);rw[ud]at P0;show saP (Bts (F.run GT Oc s1 _ [Ks,us] us [v1,v2,Be] _ _ hr e1 P0 r sp) F2 s' Z);cases F2 with|error e=>obtain⟨a',C',dx,M,B',e2,R⟩:=Z;show hx IQ σ n s1 e s' A [BF,a',C',dx,_,B',e2,aqB P kq R]|ok fl=>cases fl with|ret u=>obtain⟨v,M,os,Z0,un,sv,rv,q⟩:=Z;let p':=kE λq Z=>un.uC _ _ _ (P.at_ q Z).1;show A.after [DB,v,wj M qs,os,Z0,P.aee p' un sv kq,p'.pX sv,rv,q]|next=>show Ajy|brk=>show Ajy|cont=>show Ajy
end
def tR:Ahb|.Set .. =>false|.ListComp .. =>false|.SetComp .. =>false|.DictComp .. =>false|.Call (.Name _ _) [] [] _=>false|.Slice .. =>false|_=>true
def dO(h:tR a=Aa):swapsWith a t l p=Nn:=by cases a<;>first|rfl|rw[Tf]
def aqE(h:tR a=Aa):Cny a p=Afl:=by cases a<;>first|rfl|rw[Tf]
def aeq(h:tR a=Aa):Bit op a=Af:=by cases a<;>first|rfl|rw[Tf]
def p7(h:tR a=Aa):sdd a:=λo i=>by cases a<;>first|rfl|rw[Tf]
def eH(h:tR a=Aa):attributeBase a f p w=w:=by
 unfold attributeBase;split;·rw[Tf]
 ·rfl
def vW:Ahb|.Call (.Name _ _) _ [] _=>true|_=>false
def p8(h:vW a=Aa):swapsWith a t l p=Nn:=by cases a<;>first|rfl|rw[Tf]
def aqF(h:vW a=Aa):Cny a p=Afl:=by cases a<;>first|rfl|rw[Tf]
def aqG(h:vW a=Aa):Bit op a=Af:=by cases a<;>first|rfl|rw[Tf]
def skk:Ahb|.UnaryOp .. =>false|.BoolOp .. =>false|.IfExp .. =>false|.Compare .. =>false|_=>true
def aqH(h:skk a=Aa):∀c,isTrue a p c=(do let v<-c;standAt a.pos;holding [v] (truthy v)):=by intro w;cases a<;>first|rfl|rw[Tf]
structure Wd(N:Nm)(isX:Ayh)(k:Nat)(X:Cx):Al where
 K:Ar=AS
 calm:Ji=Aa
 room:HZ (k+40)
 tree:X.prog.given.tree=Ad
 seer:X.base.NoSeer
 u_:∃env l,Oc=env::l/\env.scope.isGenerator=Af/\env.scope.isCoroutine=Af/\env.builtins=Bpr/\env.globals=LZ
 nd:X.N.Nodup
section
variable{N:Nm}{X:Cx}{E:XK}{cl:Cl}{m:Nat}{isX:Addr->Prop}{k:Nat}
def Wd.aer(W:Wd N Er k X):∀S D H s,Bll S D H s->Ctu GT s:=λS D H s I=>by
 obtain⟨p,l,e,G,z,F,h⟩:=W.u_;show PylongRoom.of I.nolimit ?_ (SeerAt.of (W.seer.keeps I.bk) W.tree [Ni,Bys,e] G z F h);let:=W.room.dp;let e:Builtin.pylongFrames<=110:=DC
 omega
theorem Wd.units(W:Wd N Er k X):Bbq+1<Aag:=by let:=W.room.un;omega
def skl:Op->BU Operator|.add,.Add=>true|.sub,.Sub=>true|.mul,.Mult=>true|.fdiv,.FloorDiv=>true|.mod,.Mod=>true|.shl,.LShift=>true|.shr,.RShift=>true|.band,.BitAnd=>true|.bor,.BitOr=>true|.bxor,.BitXor=>true|_,_=>false
def aqI(W:Wd N Er k X)(h:skl o J=Aa)(M:GE)(T:Bc b l):Bc (.BinOp a J b s) (.bin o t l):=by
 cases o<;>cases J<;>first|rw[Tf]|skip
 ·show cW apV M T [Ir,S,x,y,by rw[W.K];grind[anR]]
 ·show cW afO M T [Ir,S,x,y,anT S x y h]
 ·show cW apY M T [Ir,S,x,y,by rw[W.K];grind[apX]]
 ·show cW (anW W.aer) M T [Ir,S,x,y,an1 S x y h]
 ·show cW afP M T [Ir,S,x,y,an2 S x y h]
 ·show cW anV M T [Ir,S,x,y,an3 S x y h]
 ·show cW afQ M T [Ir,S,x,y,an4 S x y h]
 ·show cW (pk afR [Auy,ade]) M T [Ir,S,x,y,pq (Kv) (Bwk) S x y h]
 ·show cW (pk afS [Auy,anZ]) M T [Ir,S,x,y,pq (Kv) (Bwk) S x y h]
 ·show cW (pk afT [Auy,an0]) M T [Ir,S,x,y,pq (Kv) (Bwk) S x y h]
end
section
variable{N:Nm}{X:Cx}{E:XK}{cl:Cl}{m:Nat}{isX:Addr->Prop}{k:Nat}
def sf3:sgQ->BU CmpOp|.eq,.Eq=>true|.ne,.NotEq=>true|.lt,.Lt=>true|.le,.LtE=>true|.gt,.Gt=>true|.ge,.GtE=>true|.is,.Is=>true|.zP,.IsNot=>true|.vp,.In=>true|_,_=>false
def aes(W:Wd N Er k X)(h:sf3 o J=Aa):∃r,Hz (Age J) r/\Cgb (A_->FT->Hb->Aei o x y->r v u H Q):=by
 cases o<;>cases J<;>first|rw[Tf]|skip
 ·rw[Ua,dN afU (ag1 W.room.units),Ir S x y [Cb,W.K,an5 S x y h]]
 ·rw[Ua,dN afV (ag2 W.room.units),Ir S x y [Cb,W.K,an6 S x y h]]
 ·rw[Ua,afW,Ir S x y (an7 S x y h)]
 ·rw[Ua,gb,Ir S x y (hZ S x y h)]
 ·rw[Ua,afX,Ir S x y (an8 S x y h)]
 ·rw[Ua,afY,Ir S x y (an9 S x y h)]
 ·rw[Ua,afZ,Ir S x y (aoa S x y h)]
 ·rw[Ua,af_,Ir S x y (aob S x y h)]
 ·rw[Ua,dN agM (aod W.units),Ir S x y [Cb,W.K,aoe S x y h]]
def aqJ(W:Wd N Er k X)(h:sf3 o J=Aa)(f:Bit J b=Af)(M:GE)(T:Bc b l):Bc (Avg [J] [b] s) (.cmp o t l):=by rw[Te,r,G,z,aes (E:=E) W h];grind[anL]
def aqK(W:Wd N Er k X)(h:sf3 o J=Aa)(f:Bit J b=Af)(M:GE)(T:Bc b l):Qn N X E (Avg [J] [b] s) (.cmp o t l):=by rw[Te,r,G,z,aes (E:=E) W h];grind[anN]
end
abbrev tL:=Ayn
structure Sx where
 N:Dl
 sc:Bmn
 fn:Bh
 slO:Bmn
structure Tb where
 nm:Bhs BG
 sig:Bhs (Aw×tL)
 cn:Aw->BG
 xn:Aw->BG
 rf:BG
 tn:Aw->BG
 con:Na FG
 x8:EV Aw (BG×Aw)
 sbk:Bhs (Aw×Aw)
def sis:BU Awt|some .local=>true|some .cell=>true|some .free=>true|_=>false
def saA:BU Awt|some .local=>true|_=>false
def yJ:BU Awt|some .cell=>true|_=>false
def sit:BU Awt|some .globalImplicit=>true|_=>false
def zy(l:Dl)(i:Nat)(x:Str):Bh:=match Bfs with|some y=>y==x|none=>false
def sed(x:Str):Bh:=! Gu&&!(x==(Cqo:BG))
def Sx.var(S:Sx)(i:Nat)(x:Str):Bh:=zy S.N i x&&(sis (Afw x)&&sed x)
def Sx.yK(S:Sx)(i:Nat)(x:Str):Bh:=zy S.N i x&&(saA (Afw x)||(yJ (Afw x)&&(S.fn||yJ (Dbv))))
def Sx.gl(S:Sx)(x:Str):Bh:=sit (Afw x)&&sed x
def Sx.xA(S:Sx)(B:Scope):Sx:=AO S.N [Dbm,Ctf (k==Kr&&S.sc.kind==Oh&&Afw n==Hr) (n,Adw) (n,k)] Af B
def skm:FG->BU Const|.int i,.int j=>AQ i j|.bl a,.bool b=>a==b|.sD,.none=>true|.str s,.str x=>(KE==x)&&Bn Qc Alq|_,_=>false
def sf4:FG->BU FG|.int i,.int j=>AQ i j|.str s,.str t=>AQ s t|_,_=>false
def sf5:FD->BU FD|[],[]=>true|a::l,b::r=>sf4 a b&&sf5 l r|_,_=>false
def sf6:FG->BU FG|.tup a,.tup b=>sf5 a b|a,b=>sf4 a b
def skn:NC sbL BG|.len=>Ae "len"|.abs=>Ae "abs"|.max=>Ae "max"|.divmod=>Ae Cwd|.sum=>Ae "sum"|.sorted=>Ae Cvx|.all=>Ae "all"|.any=>Ae "any"|.tuple=>Ae Afv|.str=>Ae Bmm|.ord=>Ae "ord"|_=>none
def wI(A:tL)(i:Nat):Bh:=A.all λp=>Ax !=i
def ownOf(i j:Nat):Expr->Na Aw|.Name x _=>[(x,i)]|.Tuple [.Name x _,.Name y _] _ _=>[(x,i),(y,j)]|_=>[]
def x9(S:Sx)(A:tL)(C:Bool)(i j:Nat):Ahb|.Name x _=>! C&&(Beq x&&(wI A i&&j==99))|.Tuple [.Name x _,.Name y _] _ _=>C&&((Beq x&&wI A i)&&(S.yK j y&&wI A j))|_=>false
def saB:BU Core.It|.enum _=>true|.zip _ _=>true|_=>false
def sko:Ahb|.Tuple .. =>true|_=>false
structure saC where
 x:BG
 xp:Pos
 f:BG
 fp:Pos
 a1:Expr
 a2:Expr
 ps:Cui
 b:Expr
 sc:Bmn
 lp:Pos
 cp:Pos
 sp:Pos
def saC.st(r:saC):Stmt:=Adc [PF r.x r.xp] (Hk (PF r.f r.fp) [r.a1,r.a2,.Lambda r.ps r.b r.sc r.lp] r.cp) r.sp
def yL:NC Stmt saC|.Assign [.Name x Q] (.Call (.Name f A) [X,S,.Lambda l b i s] [] u) c=>Ae ⟨x,Q,f,A,X,S,l,b,i,s,u,c⟩|_=>none
def saC.d(r:saC)(L:Str)(N:Dl):yD:=[Ds,L++Cru++Bbk,r.ps,r.b,r.sc,((r.sc.names.filter λy=>y.2==.free).map (·.1)).reverse,N.filter λX=>r.sc.names.lookup X==Qa]
def sbl(p:Arguments):Bh:=p.posonlyargs.isEmpty&&(p.vararg.isNone&&(p.kwonlyargs.isEmpty&&(p.kwarg.isNone&&(p.defaults.isEmpty&&p.kw_defaults.isEmpty))))
def scR(S:Sx)(B:Scope)(x:Str)(Q s:Pos):Bh:=saA (Afw x)&&(Fu Q==Amz&&!(B.names.any λ(n,k)=>n==x&&(k==Cnk||k==Adw)))
def skp(T:Tb)(A:tL)(f:Nat)(R:Es)(P:Hs):Bh:=match Ari with|some (v,t)=>Ry==v&&(Atk==v&&xY A t R)|none=>false
def skq(A:tL)(i:Nat)(R:Es)(P:Hs):Bh:=match A.lookup i with|some 100=>Ry==2&&xY A Aao R|some 101=>Ry==2&&xY A [(0,6)] R|some 102=>Ry==1|_=>false
def skr(T:Tb)(A:tL)(f i:Nat)(g:Str)(R:Es)(P:Hs):Bh:=match A.lookup i,Ari with|some c,some (v+1,t)=>T.x8.contains (c,g,f)&&(Bl c 7&&(! Akm Agw g&&(Ry==v&&(Atk==v&&xY A t [Agx,Ael,R]))))|_,_=>false
def slP:BU sbL|.yk=>true|_=>false
def slQ:BU sbL|.join=>true|_=>false
def sks(z:Str):BU Es|.cons (.lit (.str s)) (.cons _ .nil)=>KE==z|_=>false
def slR:BU Es|.nil=>true|_=>false
section
variable(T:Tb)
mutual
def cE(A:tL):Cda->Sx->Bh->Ahb|.var i,S,_,O=>(Cyx i)|.ao i,S,t,O=>! t&&(Cyx i)|.lit d,S,_,O=>(match O with|.Constant c _ _=>skm d c|.Name x _=>Amj&&T.con.any λp=>Ax==x&&sf6 BE d|_=>false)|.bin o a b,S,_,O=>(match O with|.BinOp C J Y _=>skl o J&&(Hc a C&&Hc b Y)|_=>false)|.neg a,S,t,O=>! t&&(match O with|.UnaryOp .USub C _=>Hc a C|_=>false)|.not a,S,t,O=>(match O with|.UnaryOp .Not C _=>cE A a S t C|_=>false)|.cmp o a b,S,_,O=>(match O with|.Compare C [J] [Y] _=>sf3 o J&&((tR Y||vW Y)&&(Hc a C&&Hc b Y))|_=>false)|.chain a b c,S,_,O=>(match O with|.Compare C [.LtE,.LtE] [Y,m] _=>tR m&&(Hc a C&&(Hc b Y&&Hc c m))|_=>false)|.and R,S,t,O=>(match O with|.BoolOp .And P _=>cB A R S t P|_=>false)|.or R,S,t,O=>(match O with|.BoolOp .Or P _=>cB A R S t P|_=>false)|.ite c a b,S,t,O=>! t&&(match O with|.IfExp m C Y _=>cE A c S Aa m&&(Hc a C&&Hc b Y)|_=>false)|.tup R,S,_,O=>(match O with|.Tuple P _ _=>Qk Ry&&uM A R S P|_=>false)|.list R,S,_,O=>Czt (Qk Ry&&uM A R S P)|.new R,S,_,O=>Czt (Qk Ry&&uM A R S P)|.sbM,_,_,O=>(match O with|.Dict [] [] _=>true|_=>false)|.idx a b,S,_,O=>(match O with|.Subscript C Y _=>tR Y&&(Hc a C&&Hc b Y)|_=>false)|.tab t b,S,_,O=>(match O with|.Subscript (.Name x _) Y _=>(Amj&&(x==T.tn t&&Bl t 3))&&(tR Y&&Hc b Y)|_=>false)|.zQ a h,S,_,O=>(match O with|.Subscript C (.Slice none (some k) none _) _=>Hc a C&&Hc h k|_=>false)|.zR a l,S,_,O=>(match O with|.Subscript C (.Slice (some G) none none _) _=>Hc a C&&Hc l G|_=>false)|.sl a l h,S,_,O=>(match O,h with|.Subscript C (.Slice (some G) (some (.Name x _)) none _) _,.var j=>Bxx j&&(Hc a C&&Hc l G)|_,_=>false)|.fld a c i,S,_,O=>(match O with|.Attribute C f _=>zy Agw i f&&(tR C&&Hc a C)|_=>false)|.call f R,S,_,O=>(match O with|.Call (.Name x _) P [] _=>(Amj&&T.nm f==Bi)&&(skp T A f R P&&uM A R S P)|_=>false)|.wV a R,S,_,O=>(match O,a with|.Call (.Name x _) (p::P) [] _,.var i=>Bhj&&(skq A i R (p::P)&&uM A R S (p::P))|_,_=>false)|.zS f a R,S,_,O=>(match O,a with|.Call (.Attribute (.Name x _) g E) P [] u,.var i=>(Bhj&&(Bzl==Fu u&&Bl Atk 9))&&(skr T A f i g R P&&uM A R S P)|_,_=>false)|.mk c R,S,_,O=>(match O with|.Call (.Name x _) (p::P) [] _=>(Amj&&(x==T.cn c&&(Bl c 5&&Ry==NL)))&&uM A R S (p::P)|_=>false)|.yl _ _,_,_,_=>false|.prim p R,S,_,O=>(match O with|.Call (.Name x _) (q::P) [] _=>(Amj&&skn p==Bi)&&uM A R S (q::P)|.Call (.Attribute C f E) [] [] u=>(slP p&&(Ry==1&&(f==Crt&&(Bzl==Fu u&&tR C))))&&uM A R S [C]|.Call (.Attribute (.Constant (.str z) j n) f E) [C] [] u=>(slQ p&&(sks z R&&(f==Ccw&&(Bzl==Fu u))))&&uM A R S [Bja (Cw z) n,C]|_=>false)|.comp M i j b,S,_,O=>(match O with|.ListComp F [⟨w,Z,[],0⟩] B _=>(x9 (Bdx) A (saB M) i j w&&(sdj S.N S.sc B (Bdp j w)&&(tR Z||vW Z)))&&(cI A M S w Z&&cE A b (Bdx) Af F)|_=>false)|.yZ M i j c b,S,_,O=>(match O with|.ListComp F [⟨w,Z,[m],0⟩] B _=>(x9 (Bdx) A (saB M) i j w&&(sdj S.N S.sc B (Bdp j w)&&(tR Z||vW Z)))&&(cI A M S w Z&&(cE A c (Bdx) Aa m&&cE A b (Bdx) Af F))|_=>false)|.lam _ _,_,_,_=>false|.sbN a b,S,_,O=>(match O,b with|.JoinedStr [.FormattedValue C (-1) none _,.Constant (.str z) _ _,.FormattedValue (.Name x _) (-1) none _] _,.var i=>(z=="/"&&Bhj)&&Hc a C|_,_=>false)termination_by structural e=>e
def uM(A:tL):Es->Sx->BU Hs|.nil,_,D=>D.isEmpty|.cons e R,S,D=>(match D with|p::D=>tu p&&(Hc e p&&uM A R S D)|[]=>false)termination_by structural e=>e
def cB(A:tL):Es->Sx->Bh->BU Hs|.nil,_,_,_=>false|.cons e R,S,t,D=>(match D with|[p]=>cE A e S t p&&slR R|p::D=>cE A e S t p&&cB A R S t D|[]=>false)termination_by structural e=>e
def cI(A:tL):Core.It->Sx->Expr->Ahb|.seq e,S,_,p=>Hc e p|.range e,S,_,p=>Cyg ((Amj&&(x==Acy&&tu a))&&Hc e a)|.enum e,S,w,p=>Cyg ((Amj&&(x==Oa&&(tu a&&sko w)))&&Hc e a)|.zip e f,S,w,p=>(match p with|.Call (.Name x _) [a,b] [] _=>(Amj&&(x==Rj&&(tu a&&(tu b&&sko w))))&&(Hc e a&&Hc f b)|_=>false)|.keys e,S,_,p=>Hc e p termination_by structural e=>e
end
end
end sj
namespace sj
open PySem PySem.Spec PyProof.Rows L2
structure At(S:Sx)(X:Cx):Al where
 N:X.N=S.N
 sc:Sq=S.sc
 fn:S.fn=Aa->∀x,Ow=Aa
 skt:∀x,Dbv=Hr->Ow=Aa
def see:Dl:=["len","abs","max",Cwd,"sum",Cvx,"all","any",Afv,Bmm,"ord",Acy,Oa,Rj]
structure Gm(N:Nm)(T:Tb)(isX:Ayh)(c:Core.uF)(k:Nat)(X:Cx):Al where
 W:Wd N Er k X
 fns:∀f np tys,Ari=Ep np tys->∃fd ps,sR By BD Ar Fp DH Ags (k+40) Ig fd ps (wh N c f np tys)/\Bgs/\Amb Ar Ig=Aa
 nm:∀f x,T.nm f=Bi->ID=Ex Ig
 cn:∀c,c<7->Afo (T.cn c)=Ex IN
 saD:∀c,c<7->∃fI fd ps,Mk Ar IN fI/\sR By BD Ar Fp DH Ags (k+30) fI fd ps (sd9 N c)/\Bgs
 cls:scB N AS
 x8:∀c m f,(c,m,f)∈T.x8->saN Ar IN m Ig
 tab:∀t,t<3->∃d f,Afo (T.tn t)=Ex d/\(∀h,Blp h->Brn (ye By BD) f)/\∀g,saz Br t f
 con:∀p∈T.con,∃v u,Afo Ax=BW/\KQ/\∀g B H,Aqt Br BE v
 blt:∀x∈see,ID=Ad
 pure:∀f ds st d st',c f ds st=Jd st'->Abi=Aa
 lam:∀f L,Bgw f=Aoz->∀g,siq Br By BD Ar Fp DH c (k+39) FV f L
 sbm:∀j,j<8->∃C fI fd ps,Afo (T.xn j)=Aug/\Azw C fI/\sR By BD Ar Fp DH Ags (k+30) fI fd ps (scL Er (uY j) (scN j))/\Bgs/\Aed
 ref:∃R,Afo T.rf=Ex R/\(∃f,Azw R f)/\∀C,Aed->scO Ar R C
 uf:∀f,(uf Cc f=Aa->Ari=Ep 2 Aao)/\(uf 101 f=Aa->Ari=Ep 2 [(0,6)])
section
variable{N:Nm}{T:Tb}{isX:Addr->Prop}{c:Core.uF}{k:Nat}{X:Cx}{S:Sx}{E:XK}{cl:Cl}
theorem Wd.w(W:Wd N Er k X)(g:Ez):Wd Br Er k X:=BF W.K W.calm W.room W.tree W.seer W.u_ W.nd
theorem Gm.w(G:JW N T c k X)(g:Ez):JW Br T c k X:=⟨G.W.w g,G.fns,G.nm,G.cn,G.saD,Aj G.cls.cls G.cls.no,G.x8,G.tab,G.con,G.blt,G.pure,G.lam,G.sbm,G.ref,G.uf⟩
theorem Gm.xA(G:JW N T c k X)(B:Scope)(y:BP):JW N T c k (scD X B y):=⟨BF Nl QH G.W.room G.W.tree G.W.seer G.W.u_ Nh,G.fns,G.nm,G.cn,G.saD,G.cls,G.x8,G.tab,G.con,G.blt,G.pure,G.lam,G.sbm,G.ref,G.uf⟩
theorem Gm.xt(G:JW N T c k X)(g:IZ)(U:D_):JW N T c k (xt X g U):=⟨BF Nl QH G.W.room G.W.tree G.W.seer G.W.u_ Nh,G.fns,G.nm,G.cn,G.saD,G.cls,G.x8,G.tab,G.con,G.blt,G.pure,G.lam,G.sbm,G.ref,G.uf⟩
def eI(h:zy l i x=Aa):Bfs=Bi:=by
 rw[Tu,zy];rw[Tn];·rw[UE,y,e];rw[e,BO h]
 ·rw[Tf]
def kG(h:sed x=Aa):Gu=Af/\(x==(Cqo:BG))=Af:=by rw[Tu,sed];rw[si,xT,xT]at h;show h
def aqL(h:sis o=Aa):o=Fy\/o=Hr\/o=Qa:=by rw[Tu,sis];rw[Tn]<;>first|show Akr|rw[Uv,Akr]|rw[Uv,Bw Ab]|rw[Tf]
def fX(h:saA o=Aa):o=Fy:=by rw[Tu,saA];rw[Tn]<;>first|rfl|rw[Tf]
def ik(h:yJ o=Aa):o=Hr:=by rw[Tu,yJ];rw[Tn]<;>first|rfl|rw[Tf]
def aqM(h:sit o=Aa):o=Dcb:=by rw[Tu,sit];rw[Tn]<;>first|rfl|rw[Tf]
theorem At.var(A:Kd)(h:Bhj=Aa):Bht Ayc:=by rw[Tu,Sx.var];rw[Vo,h];show afm [Eb,A.N,eI Bk] ?_ (kG DI).1 (kG DI).2;unfold sbw;rw[Aoy];show aqL JN
theorem At.gl(A:Kd)(h:Amj=Aa):Ii/\Gu=Af:=by rw[Tu,Sx.gl];rw[Vf];show Pu (kG Ck).1;change NM=_;rw[Aoy];show aqM Bk
theorem At.yK(A:Kd)(h:Beq x=Aa):Mj=Bi/\L2.Loc Sq x/\(Ow=Aa\/NM=Fy):=by
 rw[Tu,Sx.yK];rw[si,vc]at h;rw[Uf,Cb A.N (eI Bk)];unfold L2.Loc;rw[Aoy];rw[WS,Ck];·rw[Th,AK (fX h),Bw (fX h)]
 ·rw[si,vc]at h;rw[Th,Bw (ik Bk),Are];rw[WS,Ck];·show A.fn h x
  ·show A.skt x (ik h)
theorem At.xA(A:Kd)(B:Scope)(y:BP):At (Bdx) (scD X B y):=by
 show⟨A.N,?_,GG (by rw[Tf]),AV x h⟩;·change relabel B Di=(Bdx).sc;unfold relabel Sx.xA;rw[<-Aoy];rfl
 ·change(Agd x==Hr)=Aa;rw[TM,Agd x=Hr];rw[h];rfl
theorem At.xt(A:Kd)(g:IZ)(U:D_):At S (xt X g U):=AO A.N Aoy A.fn A.skt
def aqN(h:skm d t=Aa):Bc (Bja t P) (.lit d):=by
 cases d<;>cases t<;>first|rw[Tf]|skip
 ·show hW qz Kv
 ·rw[UE,a,b];rw[VM,a=b,BO h];show hW afn Kv
 ·rw[UE,a,b];rw[VM,a=b,Aoo];show hW kQ Kv
 ·rw[UE,s,x];rw[TM,((KE==x)&&Bn Qc Alq)=Aa];rw[Vf];rw[VM,KE=x,BO Bk];show hW qA [Auy,Q_ [Cm,Ck]]
def aet(h:sf4 a b=Aa):a=b:=by cases a<;>cases b<;>first|rw[Tf]|(rw[Aoo])
def aeu:∀{a b:FD},sf5 a b=Aa->a=b|[],[],_=>rfl|a::l,b::r,h=>by rw[TM,(sf4 a b&&sf5 l r)=Aa];rw[Vf];rw[aet Bk,aeu Ck]|[],_::_,h=>SF|_::_,[],h=>SF
def aqO(h:sf6 a b=Aa):a=b:=by
 rw[Tu,sf6];rw[Tn];·rw[aeu h]
 ·show aet h
def sku:Bh->Nm->Cx->XK->Cl->Im Expr Cda|true=>sif|false=>wH
def aev(R:skk O=Aa)(h:Bc O e):sku t N X E cl O e:=by
 cases t;·show h
 ·show anM h (aqH R)
def Gm.im(G:JW N T c k X):HZ (k+40):=G.W.room
theorem Gm.r39(G:JW N T c k X):HZ (k+39+1):=G.W.room
def Gm.p9(G:JW N T c k X):HZ (k+30+1):=G.W.room.mono Ac
end
section
variable{N:Nm}{T:Tb}{isX:Addr->Prop}{c:Core.uF}{k:Nat}{X:Cx}{S:Sx}{E:XK}{cl:Cl}{t:Bool}{τ:tL}
def aqP(G:JW N T c k X)(h:skn l=Bi)(J:Ii)(j:Gu=Af)(P:Gv (e::R) tu=Aa)(M:Qo N X E (e::R) b):Bc (Jp (e::R) s) (Ld l b):=by
 let m:=G.W.K;cases l<;>rw[Tf];·show dr apx (m▸apw) J Abg FS FS j P M
 ·show dr apy af5 J Abg FS FS j P M
 ·show dr apz (af6 QH) J Abg FS FS j P M
 ·show dr apB (apA G.W.aer) J Abg FS FS j P M
 ·show dr apC (m▸agY QH) J Abg FS FS j P M
 ·show dr apG (m▸agZ) J Abg FS FS j P M
 ·show dr apD (m▸ag0 QH) J Abg FS FS j P M
 ·show dr apE (m▸ag_ QH) J Abg FS FS j P M
 ·show adR apF (m▸agP) J Abg FS FS j P M
 ·show adR apH af7 J Abg FS FS j P M
 ·show dr apI af8 J Abg FS FS j P M
def aqQ(G:JW N T c k X)(J:Ii)(j:Gu=Af)(h:(T.con.any λp=>Ax==x&&sf6 BE d)=Aa):Bc (Ayc) (.lit d):=by rw[Tg,saq];rw[Ut,p,Y,h];rw[Vf];rw[Ul,BO Bk];rw[Ul,aqO Ck];rw[Tk,v,u,A,z,F,G.con p Y];show hW (qC J A z j) λB H=>F EB B H
def qd(h:(tR Z||vW Z)=Aa)(x:Value):Cny Z p=Afl:=Cvq vc (h.elim aqE aqF)
def io:∀{R:Es}{S:Sx}{l:Hs},uM T τ R S l=Aa->l.all tu=Aa
|.nil,S,l,h=>by
 let h:QO l=Aa:=by rw[Tu,uM];show h
 rw[Caj];rfl
|.cons e R,S,l,h=>by rw[Tu,uM];cases l with|nil=>rfl|cons p l=>rw[Vb,h];rw[Vo,h];rw[xz,Bk,Bwl];rfl
def kH{c:Nat}(h:τ.lookup i=AW):DX i c τ:=by
 induction τ with
 |nil=>rw[Tf]
 |cons p τ d=>
  rw[Tg,tX];rw[Um,(i==Ax)=Aa];·rw[Tg,e];let:BE=c:=Akx;rw[BO e,<-this];show Bax
  ·rw[uU _|>.mp e]at h;show Oo (d h)
def aew:∀{R:Hs},Bkb=Aa->Gv (Avh Bv (Bsb R env)) (λx=>! Ee)=Aa|[],_=>rfl|e::R,h=>by rw[Vp,h];rw[aC Bk];let d:=aew (pos:=pos) (env:=env) Ck;cases R with|nil=>rfl|cons A R=>rw[Vp,h];rw[Ud,aC JN,d];show d
def aex(P:Bkb=Aa)(U:Afh<9)(h:(Bky A==Amz)=Aa):Blx (Hk (Hn (Azi) m A) R s)=(do let b<-eval (.Name y u) p;standAt A.atName;let(f,g)<-holding [b] (getMethod b m (do return(<-importBound (.Name y u) p).getD true));callWith s f g (backTo s (starEach R p)) (backToKw s (keywordEach [] p))):=by
 rw[arm_eval_Call,eH Ab];let H:methodCallForm (Afh+AG ([]:Aqg)) (Avh s (Bsb R p)) (Bsc s (Bxw p))=Aa:=by unfold methodCallForm;rw[aew P];change(Aa&&Aa&&Bl (Afh+0+0) 30)=Aa;rw[Db];rfl
 unfold methodCall;rw[H];unfold calleeOf methodCallPos;rw[h];rfl
def qf(A:Kd)(n:X.N.Nodup)(h:x9 S τ Af i j w=Aa):∃x s,w=Ayc/\j=99/\Bdp j w=[(x,i)]/\∀N,xZ N X τ Af w [i] (λx _ B=>B.set i Bbi) (yO i):=by
 rw[Tu,x9];rw[Tn];·rw[UE,x,s];rw[si,si,si]at h;rw[Te,G,z,F,A.yK JN];show[OT,x,s,BO (DI).2,Ab,λN=>ao1 n G z F (DI).1]
 ·rw[Vf];cases Bk
 ·rw[Tf]
def qg(A:Kd)(G:Ji=Aa)(n:X.N.Nodup)(h:x9 S τ Aa i j w=Aa):∃x y P Q U s,w=Anb [NW P,Azh Q] U s/\Bdp j w=[(x,i),(y,j)]/\∀N:Nm,Ar=AS->xZ N X τ Aa w [i,j] (λx y B=>Bcp (B.set i Bbi)) (seu Ar 2 (sc3 (yO i) (sc3 (yO j) sgl))):=by
 rw[Tu,x9];rw[Tn];·rw[Vf];cases Bk
 ·rename_i x P y Q U s;rw[si,si,si,si]at h;rw[Te,H,z,F,A.yK (JN).1];rw[Te,D,L,I,A.yK (DI).1];show⟨x,y,P,Q,U,s,Ab,Ab,λN m=>ao2 m G n H z F (JN).2 D L I (DI).2⟩
 ·rw[Tf]
def aey(h:wI τ i=Aa):∀p∈τ,Ax≠i:=Kg (by rw[Tu,wI];rw[Tg,tZ];simpa using h p Y)
def aez(h:Aas<99):Ip (x_ A [i]) i Bbi=Ip (Bcf) 99 (Nc):=by change Ip (MS Ad) i Bbi=_;rw[sdY,sjY (l:=Bcf) (Fb wv)]
def aeA:Bcp (Ip (x_ A [i,j]) i Bbi)=Aoh:=by
 change Bcp (Ip (Ip (A.set j Ad) i Ad) i Bbi)=_;rw[sdY];rw[Tv,i=j];·subst h;simp[sdY]
 ·rw[List.set_comm _ _ (uc h),sdY]
end
section
variable{T:Tb}{isX:Addr->Prop}{c:Core.uF}{k:Nat}{τ:tL}
def sf7(N:Nm)(X:Cx)(E:XK)(r:Cl):Im Es Hs|.nil,l=>l=[]|.cons e R,l=>∃q n,l=q::n/\tu q=Aa/\wH N X E r q e/\sf7 N X E r R n
theorem sf7.a:∀{R:Es}{l:Hs},sf7 N X E r R l->sjZ N X E r l R|.nil,l,h=>by obtain rfl:l=[]:=h;show aos|.cons e _,l,h=>by rw[WQ,q,n,G,z,F];show aot G z F.a
def slS(t:Bool)(N:Nm)(X:Cx)(E:XK)(r:Cl)(l:Hs)(R:Es)(s:Pos):Al:=match t with|false=>wH N X E r (Ade l s) [Azr,R]/\wH N X E r (Adn l s) (.or R)|true=>yE N X E r (Ade l s) [Azr,R]/\yE N X E r (Adn l s) (.or R)
def y0(X:Cx):BP:=DL X.wr X.xv 0 [] []
def aeB(h:(Ry==1)=Aa):∃e,R=EJ e:=by cases R with|nil=>rw[Tf]|cons e R=>cases R with|nil=>grind|cons N R=>grind[xX]
def fY:sc7 Ags (scD X B y) EF:=ad0
def kI(G:JW N T c k X)(A:Kd)(h:(x9 (Bdx) τ (saB I) i j w&&(sdj S.N S.sc B (Bdp j w)&&(tR Z||vW Z)))=Aa)(f:xo N X E Aiu (saB I) w Z I):zL X.N Sq B (Bdp j w)/\(∀x,Atm Z=Afl)/\((∀y g,wH Br (scD X B y) EF Aiu F b)->scF N X E Aiu w Z F [] B (Bdp j w) (.comp I i j b)/\∀m d,(∀y g,sif Br (scD X B y) EF Aiu m d)->scF N X E Aiu w Z F [m] B (Bdp j w) (.yZ I i j d b)):=by
 rw[Vo,h];rw[Tp,by rw[A.N,Aoy];grind[ahc],qd DI,FC M];cases z:saB _ with
 |false=>
  rw[z]at h f;rw[TZ,x,R,W,H,e,_,qf (A.xA _ (y0 X)) Nh Bk];subst H;let J:∀y g,xZ Br ..:=λy g=>(let⟨_,_,_,_,_,q⟩:=qf (Ber _) Nh Bk;q _);rw[e];let a:wI τ i=Aa:=by rw[We,x9]
  let a:∀p∈τ,Ax∉[(x,i)].map Ccv:=λp Y L=>aey a p Y Ag;rw[Th,adI f J M a (λx y D U=>aez U) Ab (y0 X),λm d l=>adJ f J l M a (λx y D U=>aez U) Ab (y0 X)]
 |true=>
  rw[z]at h f;obtain⟨x,y,P,Q,O,C,W,e,_⟩:=qg (A.xA _ (y0 X)) QH Nh Bk;rw[TW,J,∀y g,xZ Br _ _ _ _ _ _ (seu Ar 2 _),y,g,(let⟨_,_,_,_,_,_,_,_,q⟩:=qg (Ber _) QH Nh Bk;q _ Nl)];rw[e];let a:wI τ i=Aa/\wI τ j=Aa:=by rw[We,x9]
  let a:∀p∈τ,Ax∉[(x,i),(y,j)].map Ccv:=λp Y L=>by grind[aey]
  rw[Th,adI f J M a (λx y D U=>aeA) Ab (y0 X),λm d l=>adJ f J l M a (λx y D U=>aeA) Ab (y0 X)]
mutual
theorem sE:∀(e:Core.E){N:Nm}{X:Cx}{E:XK}{S:Sx}{t:Bool}{O:Expr},JW N T c k X->Kd->Bnn->cE T τ e S t O=Aa->sku t N X E Aiu O e
|.var i,N,X,E,S,t,O,G,A,P,h=>by
 rw[Uu];rw[Tn];·rw[UU,adb (Aak h)]
 ·grind
|.ao i,N,X,E,S,t,O,G,A,P,h=>by
 rw[Uu];rw[Vf];rw[UJ,I,h];cases t
 ·rw[Tn];·show aoT (Aak h)
  ·rw[Tf]
 ·cases I
|.lit d,N,X,E,S,t,O,G,A,P,h=>by
 rw[Uu];rw[Tn];·rw[UU,aqN h]
 ·rw[Vf];rw[VV,h1,h2,Bk];rw[UU,aqQ G h1 h2 Ck]
 ·rw[Tf]
|.bin o a b,N,X,E,S,t,O,G,A,P,h=>by
 rw[Uu];rw[Tn];·rw[Vo,h];rw[UU,aqI G.W Bk (Bxd) (Lj b DI)]
 ·rw[Tf]
|.neg a,N,X,E,S,t,O,G,A,P,h=>by
 rw[Uu];rw[Vf];rw[UJ,I,h];cases t
 ·rw[Tn];·show aof (Ajj h)
  ·rw[Tf]
 ·cases I
|.not a,N,X,E,S,t,O,G,A,P,h=>by
 rw[Uu];rw[Tn]
 ·cases t;·show aog (Ajj h)
  ·show anO (Ajj h)
 ·rw[Tf]
|.cmp o a b,N,X,E,S,t,O,G,A,P,h=>by
 rw[Uu];rw[Tn]
 ·rename_i op _ _;rw[si,si,si,vc]at h;let hm:=(JN).elim [GK,aeq (op:=op) z] [GK,aqG (op:=op) z];cases t;·show aqJ G.W Bk hm (Ajj (DI).1) (Lj b (DI).2)
  ·show aqK G.W Bk hm (Ajj (DI).1) (Lj b (DI).2)
 ·rw[Tf]
|.chain a b d,N,X,E,S,t,O,G,A,P,h=>by
 rw[Uu];rw[Tn]
 ·rw[si,si,si]at h;let hm:=aeq (op:=.LtE) Bk;cases t;·show aoi hm (Bxd) (Lj b (DI).1) (Lj d (DI).2)
  ·show aoj hm (Bxd) (Lj b (DI).1) (Lj d (DI).2)
 ·rw[Tf]
|.and R,N,X,E,S,t,O,G,A,P,h=>by
 rw[Uu];rw[Tn]
 ·let:=sB R G A P h;cases t;·show(this _).1
  ·show(this _).1.t
 ·rw[Tf]
|.or R,N,X,E,S,t,O,G,A,P,h=>by
 rw[Uu];rw[Tn]
 ·let:=sB R G A P h;cases t;·show(this _).2
  ·show(this _).2.t
 ·rw[Tf]
|.ite d a b,N,X,E,S,t,O,G,A,P,h=>by
 rw[Uu];rw[Vf];rw[UJ,I,h];cases t
 ·rw[Tn];·rw[Vo,h];show aoh (Lj d Bk) (Bxd) (Lj b DI)
  ·rw[Tf]
 ·cases I
|.tup R,N,X,E,S,t,O,G,A,P,h=>by
 rw[Uu];rw[Tn];·rw[Vf];rw[UU,aou (Bdj) (bD R G A P Ck).a]
 ·rw[Tf]
|.list R,N,X,E,S,t,O,G,A,P,h=>by
 rw[Uu];rw[Tn];·rw[Vf];rw[UU,aov (Bdj) (bD R G A P Ck).a]
 ·rw[Tf]
|.new R,N,X,E,S,t,O,G,A,P,h=>by
 rw[Uu];rw[Tn];·rw[Vf];rw[UU,aow (Bdj) (bD R G A P Ck).a]
 ·rw[Tf]
|.sbM,N,X,E,S,t,O,G,A,P,h=>by
 rw[Uu];rw[Tn];·show aev Ab aox
 ·rw[Tf]
|.idx a b,N,X,E,S,t,O,G,A,P,h=>by
 rw[Uu];rw[Tn];·rw[Vo,h];rw[UU,aoC Nl G.W.units (p7 Bk) (Bxd) (Lj b DI)]
 ·rw[Tf]
|.tab t' b,N,X,E,S,t,O,G,A,P,h=>by
 rw[Uu];rw[Tn];·rw[si,si,si,si]at h;rw[VV,h1,h2,Aow];rw[Tk,d,f,U,q2,q3,G.tab t' (Cm RQ)];rw[BO (Alk).1]at h1 h2|-;rw[UU,ad9 q2 (q3 EB) h1 U h2 (p7 JN) (Lj b DI)]
 ·rw[Tf]
|.zQ a b,N,X,E,S,t,O,G,A,P,h=>by
 rw[Uu];rw[Tn];·rw[Vf];rw[UU,aoE Nl (Ajj Bk) (Lj b Ck)]
 ·rw[Tf]
|.zR a b,N,X,E,S,t,O,G,A,P,h=>by
 rw[Uu];rw[Tn];·rw[Vf];rw[UU,aoF Nl (Ajj Bk) (Lj b Ck)]
 ·rw[Tf]
|.sl a b d,N,X,E,S,t,O,G,A,P,h=>by
 rw[Uu];rw[Tn];·rw[Vo,h];rw[UU,aoD Nl (Bxd) (Lj b DI) (adb (Aak Bk))]
 ·rw[Tf]
|.fld a d i,N,X,E,S,t,O,G,A,P,h=>by
 rw[Uu];rw[Tn];·rw[Vo,h];rw[UU,aoG Nl G.cls (eI Bk) (eH JN) (Ajj DI)]
 ·rw[Tf]
|.call f R,N,X,E,S,t,O,G,A,P,h=>by
 rw[Uu];rw[Tn]
 ·rw[si,si,si]at h;rw[VV,h1,h2,Aow];let hc:=JN;rw[TC,skp,hc];rw[Tz,hc];·rename_i v C0 e;rw[Vo,hc];rw[Tk,u,l,F,Bd,kp,G.fns f v C0 e];rw[UU,aoH F G.im h1 (G.nm f _ (BO Alk)) kp Bd P h2 (BO hc.1) (BO hc.2.1) Cdg (Bwl) (bD R G A P DI).a]
  ·cases hc
 ·rw[Tf]
|.wV a R,N,X,E,S,t,O,G,A,P,h=>by
 rw[Uu];rw[Tn]
 ·rename_i x Q p O0 s i;rw[Vo,h];let hc:=JN;rw[TC,skq,hc];rw[Tz,hc];·rw[TF,e];rw[si]at hc;rw[UU,aea (c:=Cc) Dc Dc (λf hf=>let⟨u,l,F,Bd,kp⟩:=G.fns f _ _ ((G.uf f).1 hf);BF _ u l F G.im kp Bd) P (Aak Bk) (kH e) (BO hc.1) hc.2 (Bwl) (bD R G A P DI).a]
  ·rw[TF,e];rw[si]at hc;rw[UU,aea (c:=101) Dc Dc (λf hf=>let⟨u,l,F,Bd,kp⟩:=G.fns f _ _ ((G.uf f).2 hf);BF _ u l F G.im kp Bd) P (Aak Bk) (kH e) (BO hc.1) hc.2 (Bwl) (bD R G A P DI).a]
  ·rw[TF,e];let r:=bD R G A P DI;rw[VR,W,aeB hc];let hA:=r.a;obtain⟨q,n,e2,hs,Z,J⟩:=r;injection e2 with e4 e5;subst e4 e5;obtain rfl:O0=[]:=J;rw[UU,aqw G.r39 (λf L hl=>G.lam f L hl EB) (Aak Bk) (kH e) hs hA]
  ·cases hc
 ·rw[Tf]
|.zS f a R,N,X,E,S,t,O,G,A,P,h=>by
 rw[Uu];rw[Tn]
 ·rw[si,si,si,si]at h;let hc:=JN;rw[TC,skr,hc];rw[Tz,hc];·rename_i d v C0 W e2;rw[si,si,si,si,si]at hc;let G0:d<7:=Cm hc.2.1;rw[Tk,u,l,F,Bd,kp,G.fns f _ C0 e2];rw[UU,aoJ Ac [Eb,Nl,G.cls.cls d G0] (G.x8 _ _ _ (Amo hc.1)) (by simpa using(Cdg).1) F G.im Bd P (BO (Cdg).2.1) (BO (Cdg).2.2.1) (kH W) (Cdg).2.2.2 (Bwl) (Aak Aow) (bD R G A P DI).a (aex (Bwl) (Cm RQ) (Alk).1)]
  ·cases hc
 ·rw[Tf]
|.mk d R,N,X,E,S,t,O,G,A,P,h=>by
 rw[Uu];rw[Tn];·rw[si,si,si,si]at h;rw[VV,h1,h2,Aow];let E0:d<5:=Cm (RQ).1;rw[TZ,fI,u,l,M,F,Bd,G.saD d Ac];rw[BO (Alk).1]at h1 h2|-;rw[UU,aoL E0 M F G.p9 h1 (G.cn d Ac) Bd P h2 (BO (RQ).2) (io Ck) (bD R G A P Ck).a]
 ·rw[Tf]
|.yl d R,N,X,E,S,t,O,G,A,P,h=>by rw[Uu];rw[Tf]
|.prim p R,N,X,E,S,t,O,G,A,P,h=>by
 rw[Uu];rw[Tn];·rw[Vo,h];rw[VV,h1,h2,Aow];rw[UU,aqP G (BO Alk) h1 h2 (io Ck) (bD R G A P Ck).a]
 ·rw[si,si,si,si,si]at h;let r:=bD R G A P Ck;rw[VR,W,aeB (Alk).1];obtain⟨q,n,e2,hs,Z,J⟩:=r;injection e2 with e4 e5;subst e4;rw[BO (RQ).1];let Y:p=.yk:=by let:=Aow;cases p<;>first|rfl|rw[Ve]
  subst Y;rw[UU,apK (eH (RQ).2.2) (RQ).2.1 Z]
 ·rw[si,si,si,si]at h;let r:=bD R G A P Ck;let C:=(Alk).1;rw[TC,sks,C];rw[Tz,C]
  ·obtain⟨q,n,e2,hs,Z,q2,P0,J,J0,I0,e4⟩:=r;injection e2 with e5 H;subst H;injection J with e7 e8;subst e7;rw[BO (RQ).1];let Y:p=Axt:=by let:=Aow;cases p<;>first|rfl|rw[Ve]
   subst Y;rw[<-BO C];rw[UU,apL (aC J0) (eH Ab) (RQ).2 qA Nl I0]
  ·cases C
 ·rw[Tf]
|.comp it i j b,N,X,E,S,t,O,G,A,P,h=>by
 rw[Uu];rw[Tn];·rename_i D0 w l0 B s;rw[si,si (cI T τ it S w l0)]at h;rw[Te,U,q2,q3,kI G A Bk (sI it G A P JN)];rw[UU,adK QH Nh U q2 (q3 λy g=>sE b ((Bvh B).w g) (Ber B) fY DI).1]
 ·rw[Tf]
|.yZ it i j d b,N,X,E,S,t,O,G,A,P,h=>by
 rw[Uu];rw[Tn];·rename_i D0 w l0 m B s;rw[si,si (cI T τ it S w l0),si (cE T τ d _ Aa m)]at h;rw[Te,U,q2,q3,kI G A Bk (sI it G A P JN)];rw[UU,adK QH Nh U q2 ((q3 λy g=>sE b ((Bvh B).w g) (Ber B) fY (DI).2).2 m d λy g=>sE d ((Bvh B).w g) (Ber B) fY (DI).1)]
 ·rw[Tf]
|.lam f D,N,X,E,S,t,O,G,A,P,h=>by rw[Uu];rw[Tf]
|.sbN a b,N,X,E,S,t,O,G,A,P,h=>by
 rw[Uu];rw[Tn];·rw[Vo,h];rw[BO Aow];rw[UU,apN (Ajj Ck) (Aak Alk)]
 ·rw[Tf]termination_by structural e=>e
theorem bD:∀(R:Es){N:Nm}{X:Cx}{E:XK}{S:Sx}{l:Hs},JW N T c k X->Kd->Bnn->uM T τ R S l=Aa->sf7 N X E Aiu R l
|.nil,N,X,E,S,l,G,A,P,h=>Cvp uM Caj
|.cons e R,N,X,E,S,l,G,A,P,h=>by
 rw[Tu,uM];rw[Tn];·rw[Vo,h];show[OT,_,_,Bk,MJ JN,bD R G A P DI]
 ·rw[Tf]termination_by structural e=>e
theorem sB:∀(R:Es){N:Nm}{X:Cx}{E:XK}{S:Sx}{t:Bool}{l:Hs},JW N T c k X->Kd->Bnn->cB T τ R S t l=Aa->∀s,slS t N X E Aiu l R s
|.nil,N,X,E,S,t,l,G,A,P,h=>by rw[Tu,cB];rw[Tf]
|.cons e R,N,X,E,S,t,l,G,A,P,h=>by
 rw[Tu,cB];rw[Tn]
 ·rw[Vf];let hn:R=BY:=by let:=Ck;rw[Ue]<;>first|rfl|rw[Ve]
  subst hn;intro s;let:=MJ Bk;cases t;·rw[Th,aok this,aol this]
  ·rw[Th,aoo this,aop this]
 ·rename_i p l H0;rw[Vf];intro s;let h1:=MJ Bk;let h2:=sB R G A P Ck s;cases R with
  |nil=>let:=Ck;rw[TC,cB,this];rw[Ve]
  |cons e2 R=>
   cases l with
   |nil=>show(H0 Ab).elim
   |cons q l=>
    cases t;·rw[Th,aom h1 h2.1,aon h1 h2.2]
    ·rw[Th,aoq h1 h2.1,aor h1 h2.2]
 ·rw[Tf]termination_by structural e=>e
theorem sI:∀(it:Core.It){N:Nm}{X:Cx}{E:XK}{S:Sx}{w p:Expr},JW N T c k X->Kd->Bnn->cI T τ it S w p=Aa->xo N X E Aiu (saB it) w p it
|.seq e,N,X,E,S,w,p,G,A,P,h=>Cvp cI (apc Nl (MJ h))
|.range e,N,X,E,S,w,p,G,A,P,h=>by
 rw[Tu,cI];rw[Tn];·rw[si,si,si]at h;rw[VV,h1,h2,Aow];rw[Ud,BO (Alk).1,h1];show ape h1 Abg RQ (MJ Ck)
 ·rw[Tf]
|.enum e,N,X,E,S,w,p,G,A,P,h=>by
 rw[Tu,cI];rw[Tn];·rw[si,si,si,si]at h;rw[VV,h1,h2,Aow];rw[Ud,BO (Alk).1,h1];let I:=(RQ).2;cases w<;>first|(cases I;done)|show apt Nl h1 Abg (RQ).1 (MJ Ck)
 ·rw[Tf]
|.zip e f,N,X,E,S,w,p,G,A,P,h=>by
 rw[Tu,cI];rw[Tn];·rw[si,si,si,si,si,si]at h;rw[VV,h1,h2,Aow];rw[Ud,BO (Alk).1,h1];let I:=(RQ).2.2;cases w<;>first|(cases I;done)|show apv Nl h1 Abg (RQ).1 (RQ).2.1 (MJ JN) (Lj f DI)
 ·rw[Tf]
|.keys e,N,X,E,S,w,p,G,A,P,h=>Cvp cI (apf (MJ h))termination_by structural e=>e
end
end
end sj
namespace sj
open PySem PySem.Spec PyProof.Rows L2
def sfF(A d:tL)(l:Bool):Core.S->tL|.set i (.yl c _)=>(i,c)::A|.set i (.tab t _)=>[Gz,t<2,(i,Cc+t)::A,A]|.ret _=>d|.raise _ _=>d|.zT _ _=>d|.ite _ _ _=>Bo l d A|_=>A
def skv:BU Ss|.nil=>true|_=>false
def siu:BU Cda|.prim .len _=>true|.lit (.int _)=>true|_=>false
def sef(S:Sx):Bh:=match S.sc.kind with|.function=>true|_=>false
def siv:BU Cda|.comp .. =>true|.yZ .. =>true|_=>false
section
variable(T:Tb)
def skw(A:tL)(S:Sx)(c:Nat)(R:Es):Ahb|.Call (.Name y _) l [] _=>(S.gl y&&(y==T.cn c&&((c==5||c==6)&&(Ry==NL&&Ah==NL))))&&uM T A R S l|_=>false
def skx(A:tL)(S:Sx)(t:Nat)(b:Core.E):Ahb|.Subscript (.Name y _) Y _=>(S.gl y&&y==T.tn t)&&(tR Y&&KH T A b S Y)|_=>false
def siw(S:Sx)(x:Str)(Q:Pos):Ahb|.ListComp F n B s=>sef S&&scR S B x Q s|_=>false
def sf8(S:Sx)(x:Str)(Q:Pos):Ahb|.ListComp F n B s=>sef S&&! scR S B x Q s|e=>tR e||vW e
def six(A:tL)(S:Sx)(F:Nat)(o:Aai)(i f g:Nat)(D:Ak)(W P:Core.E)(r:saC):Bh:=(match o with|some j=>T.sbk g==Ep F j|none=>false)&&((match Ari with|some (3,t)=>sir A t [LV,W,P]|_=>false)&&((S.gl r.f&&(T.nm f==Ae r.f&&(Beq r.x&&(wI A i&&(tu r.a1&&tu r.a2)))))&&((KH T A W S r.a1&&KH T A P S r.a2)&&(S.fn&&((Cjf==(Aro "").uo.length&&(Aog (D.zip (Aro "").uo) p (zy S.N Ax BE&&yJ (Afw BE)))&&((Aro "").uo.all λy=>(Aro "").sG.contains y))&&((Aro "").sG.all λy=>yJ (Afw y)))))))
mutual
def cS(F:Nat):Core.S->Aai->tL->tL->Sx->BU Stmt|.set i e,o,A,q,S,p=>(match p with|.Assign [.Name x Q] v _=>(Beq x&&wI A i)&&(match e with|.yl c R=>AQ q ((i,c)::A)&&skw T A S c R v|.tab t b=>CH (t<2) [HL,q,(i,Cc+t)::A,skx T A S t b v,tR v] [HL,q,A,tR v,KH T A (.tab t b) S v]|.call f (.cons W (.cons P (.cons (.lam g D) .nil)))=>Aml q A (match yL p with|some r=>six T A S F o i f g D W P r|none=>false)|e=>HL q A ((siw S x Q v&&siv e)||sf8 S x Q v) [KH,T,A,e,S,v])|_=>false)|.saU a c i e,_,A,q,S,p=>(match p with|.Assign [.Attribute C f _] v _=>(HL q A (zy Agw i f) (tR v||vW v))&&(KH T A a S C&&KH T A e S v)|_=>false)|.sdm a c i e,_,A,q,S,p=>(match p with|.AugAssign (.Attribute C f _) .Add v _=>(AQ q A&&zy Agw i f)&&(KH T A a S C&&KH T A e S v)|_=>false)|.aug i e,_,A,q,S,p=>(match p with|.AugAssign (.Name x _) .Add v _=>([HL,q,A,Beq x,wI A i])&&KH T A e S v|_=>false)|.put i U e,_,A,q,S,p=>(match p,U with|.Assign [.Subscript (.Name x _) (.Name y _) _] v _,.var j=>(HL q A (Bhj&&S.var j y) (siu e&&(tR v||vW v)))&&KH T A e S v|_,_=>false)|.app i e,_,A,q,S,p=>Dgj ((HL q A Bhj (f==Cjk&&(tu a&&Bzl==Fu u)))&&KH T A e S a)|.ext i e,_,A,q,S,p=>Dgj ((HL q A Bhj (f==Cjl&&(tu a&&Bzl==Fu u)))&&KH T A e S a)|.expr e,_,A,q,S,p=>(match p with|.Expr a _=>(Aml q A (tR a||vW a))&&KH T A e S a|_=>false)|.ret e,_,A,_,S,p=>(match p with|.Return (some a) _=>KH T A e S a|_=>false)|.raise j R,_,A,_,S,p=>(match p with|.Raise (some (.Call (.Name x _) l [] _)) none _=>(Amj&&(x==T.xn j&&(Bl j 8&&(Ry==uY j&&Ah==uY j))))&&uM T A R S l|_=>false)|.ite e a b,_,A,q,S,p=>(match p with|.If m C Y _=>cE T A e S Aa m&&(yM F a Ad A q S C&&yM F b Ad A q S Y)|_=>false)|.wW e b,_,A,q,S,p=>(match p with|.While m Y [] _=>[HL,q,A,cE T A e S Aa m,yM F b Ad A A S Y]|_=>false)|.xB i M b,_,A,q,S,p=>Cyu ((HL q A (! saB M) (x9 S A Af i 99 w&&(tR Z||vW Z)))&&(cI T A M S w Z&&yM F b Ad A A S Y))|.ww i j M b,_,A,q,S,p=>Cyu ((HL q A (saB M) (x9 S A Aa i j w&&(tR Z||vW Z)))&&(cI T A M S w Z&&yM F b Ad A A S Y))|.zT i e,_,A,_,S,p=>(match p with|.Try [.Return (some O) _] [.ExceptHandler (some (.Name x _)) (some n) [.Return (some (.Attribute (.Name J _) f _)) _] _] [] [] _=>(Amj&&(x==T.rf&&(zy S.N i n&&(saA (Afw n)&&(sed n&&(J==n&&f==Fd))))))&&KH T A e S O|_=>false)termination_by structural s=>s
def yM(F:Nat):Ss->Aai->tL->tL->Sx->BU Acz|.nil,_,A,d,_,l=>AQ A d&&QO l|.cons s B,o,A,d,S,l=>(match l with|p::l=>cS F s o A (sfF A d (skv B) s) S p&&yM F B (o.map (·+1)) (sfF A d (skv B) s) d S l|[]=>false)termination_by structural s=>s
end
end
end sj
namespace sj
open PySem PySem.Spec PyProof.Rows L2
structure Fm(N:Nm)(T:Tb)(isX:Ayh)(fi:Nat)(src:Acz)(X:Cx)(E:XK)(S:Sx):Al where
 F:Aok X E
 lam:∀g j s r,T.sbk g=Ep fi j->src[j]?=G_->yL s=Ae r->∃q Ta cc,Bgw g=As [Aro,q]/\Cty++Bbk=(Aro q).qual/\Bqh r.ps Di=Bww/\Bjj r.sc Di=Ek ((Aro q).sG.map λx=>(x,Amq (KO)))/\Ctz=AC cc/\Bxz DH cc Ta/\LZ≠Ta/\Cpw Ta/\DX Ta (Aro q).qual N.tb/\(Aro q).sG.Nodup
 nT:Coq (CG=r.1->q=r)
section
variable{N:Nm}{T:Tb}{isX:Addr->Prop}{c:Core.uF}{k fi m:Nat}{src:List Stmt}{X:Cx}{E:XK}{S:Sx}{τ:tL}{cl:Cl}
def qh(F:Aok X E):Bph GT Di Agg:=by rw[F.xe];show PassesOwn.«leaving»
def kJ(h:(tR v||vW v)=Aa):swapsWith v t l p=Nn:=Cvq vc (h.elim dO p8)
def aeC(A:Kd)(Z:sef S=Aa):Aab (Agk n B s) Awv l=Ek (scR S B x Q s):=by
 let b:S.sc.kind=Oh:=by grind[sef]
 let W:Dei=Oh:=by rw[PySem.Env.blockKind,Aoy,b];rfl
 let e:Byc=Afw x:=by change NM=_;rw[Aoy]
 change(Ek (Dei==Oh&&Byc==CU&&Fu Q==Amz&&!(B.names.any _)))=_;unfold scR;let J:(Afw x==Ae NameKind.local)=saA (Afw x):=by cases Afw x with|none=>rfl|some U=>cases U<;>rfl
 grind
def aqR(A:Kd)(h:sf8 S x Q v=Aa):Aab v Awv l=Nn:=by
 rw[Tu,sf8];rw[Tn];·grind[aeC]
 ·show kJ h
def aqS(h:siu e=Aa):∀A st d s,Aki c e A=Jd s->∃z,d=Aeq:=by
 intro A st d s O;rw[Tu,siu];rw[Tn]
 ·let O:(Kx (uy ..))=Jd _:=O;cases G:uy .. with
  |ok C B=>
   rw[G]at O;match C,O with
   |[x],O=>let O:Asp=Jd _:=O;cases H:sgR _ x with|none=>rw[H]at O;cases O|some n=>rw[H]at O;cases O;grind
   |[],O=>cases O
   |_::_::_,O=>cases O
  |err x B=>rw[G]at O;cases O
  |stuck=>rw[G]at O;cases O
 ·cases O;grind
 ·grind
def aqT(h:yL s=Ae r):s=r.st:=by
 rw[Tu,yL];rw[Tn];·rw[Tf];rfl
 ·grind
def aeD:∀{l:LJ}{r:Eg d},Ah=Ic->(∀p∈Aaj r,F Ax BE)->Bav F l r|[],[],_,_=>BY|a::l,b::r,h,k=>Jo (k _ RO) (aeD Ag [Kg,k p (Oo Y)])|[],_::_,h,_=>Aq|_::_,[],h,_=>Aq
def aqU(G:JW N T c k X)(A:Kd)(M:Fm N T Er fi src X E S)(Z:∀j,o=Ae j->src[j]?=G_)(w:yL s=Ae r)(h:six T τ S fi o i f g D W c2 r=Aa):sea N X E Aiu m τ s (F_ i [FW,f,W,LV c2 (.lam g D)]):=by
 rw[Tu,six];rw[Vv];obtain⟨hj,L,⟨J,D0,a,I,E0,G0⟩,⟨h1,h2⟩,C0,⟨⟨U,B⟩,l0⟩,n⟩:=h;rw[Tz,hj]
 ·rw[TF,j];rw[Tz,L]
  ·rw[UE,J0,R];obtain⟨q,Ta,cc,q1,q2,t,q4,q5,q6,q7,q8,q9,H0⟩:=M.lam g j s r (BO hj) (Z j Ab) w;rw[VV,g1,v,J];rw[Te,w1,O,H,Cvo];rw[Tk,u,l,F,b,x,G.fns f _ _ R];rw[aqT w];let P:=Sd;rw[tZ]at B l0 n;rw[TW,C,∀y,yJ _=Aa->Afs y=CU,y,Q,Cb Aoy (ik Q)]
   show pI Nh w1 O (p8 Ab) H I ?_;show aqD (L:=Anx _) F G.im g1 (G.nm f _ (BO D0)) x b P v (λds st d I0 e=>G.pure f _ _ d _ e) L E0 G0 (Lj _ h1) (Lj _ h2) q1 q2 t q4 q5 q6 q7 q8 q9 M.nT H0 (λy Q=>C y (n y Q)) (λy Q=>Amo (l0 y Q)) (aeD (BO U) JQ);let z:=B p Y;rw[si]at z;rw[Tp,Cb A.N (eI HI),C _ Hf,A.fn C0 _]
  ·grind
 ·grind
end
section
variable{N:Nm}{T:Tb}{isX:Addr->Prop}{c:Core.uF}{k fi m:Nat}{src:List Stmt}{X:Cx}{E:XK}{S:Sx}{cl:Cl}
theorem sLC(G:JW N T c k X)(A:Kd)(P:Bnn)(a:Beq x=Aa)(I:wI D i=Aa)(f:siw S x Q v=Aa)(L:siv e=Aa)(h:KH T D e S v=Aa):sea N X E [Aj,c,D] m D (Adc [Awv] v Y) (.set i e):=by
 rw[Te,W,O,H,Cvo];let C:∀{F:Expr}{n:Afi}{B:Scope}{s:Pos},v=Agk n B s->NM=Fy/\Aab v Awv [Fu,Y]=Ek Aa:=by intro F n B s e;rw[Uo];let f:(sef S&&scR _ _ _ _ _)=Aa:=f;rw[si]at f;show Pu (by grind[aeC]);let:=f.2;rw[TC,scR,this];rw[Aoy];grind[fX]
 cases e with
 |comp M J j b=>
  rw[Uu];rw[Tn];·rename_i F w Z B s;rw[si,si (cI _ _ _ _ _ _)]at h;rw[Te,U,R,t,kI G A Bk (sI _ G A P JN)];show adL QH Nh W (C Ab).1 (C Ab).2 I U R (t λy g=>sE b ((Bvh _).w g) (Ber _) fY DI).1
  ·rw[Tf]
 |yZ M J j d b=>
  rw[Uu];rw[Tn];·rename_i F w Z p B s;rw[si,si (cI _ _ _ _ _ _),si (cE _ _ _ _ _ _)]at h;rw[Te,U,R,t,kI G A Bk (sI _ G A P JN)];show adL QH Nh W (C Ab).1 (C Ab).2 I U R ((t λy g=>sE b ((Bvh B).w g) (Ber B) fY (DI).2).2 p d λy g=>sE d ((Bvh B).w g) (Ber B) fY (DI).1)
  ·rw[Tf]
 |_=>cases L
def aeE(f:tu a=Aa):(Gv (Avh u (Bsb Hi p)) (λx=>! Ee)&&Gv (Bsc u (Bxw p)) (λx=>OC Ee)&&Bl (AG Hi+AG ([]:Aqg)+(Iz [QO,([]:Aqg)] 0 1)) 30)=Aa:=DY (aC f)
def aqV(G:JW N T c k X)(A:Kd)(P:Bnn)(a:Beq x=Aa)(I:wI B i=Aa)(h:(HL q B ((siw S x Q v&&siv e)||sf8 S x Q v) [KH,T,B,e,S,v])=Aa):sea N X E [Aj,c,B] m q (Adc [Awv] v s) (.set i e):=by
 rw[Vz,si,vc,h];rw[Te,W,O,H,Cvo];rw[VM,q=B,Bdj];rcases JN with z|z;·grind[sLC]
 ·show pI Nh W O (aqR A z) H I (MJ DI)
mutual
theorem sS(G:JW N T c k X)(A:Kd)(M:Fm N T Er fi src X E S):∀(s:Core.S){o:Aai}{τ q:tL}{p:Stmt},(∀j,o=Ae j->src[j]?=Aat)->cS T fi s o τ q S p=Aa->sea N X E Aiu m q p s
|.set i e,o,τ,q,p,Z,h=>by
 let P:=Sd;rw[VH];rw[Tn]
 ·rw[Vo,h];rw[UJ,⟨E0,l0⟩,h];rw[Te,w1,O,H,A.yK E0];rw[Tn]
  ·rw[UE,d,es];rw[Vf];rw[Ul,Bdj];let z:=Ck;rw[TC,skw,z];rw[Tz,z]
   ·rw[Vz,si,vc,z];obtain⟨⟨a1,a2,a3,a4,a5⟩,a6⟩:=z;rw[VV,g,v,a1];let hd:d=5\/d=6:=a3.imp eq_of_beq eq_of_beq;rw[Uc,D0,d<7]
    rw[TZ,Y,u,l,G0,F,Bd,G.saD d D0];rw[BO a2]at g v|-;show aqq hd G0 F G.p9 g (G.cn d D0) Bd P v (BO a4) (BO a5) (io a6) (bD es G A P a6).a Nh w1 O (p8 Ab) H l0
   ·cases z
  ·rw[UE,t,b];rw[Td,ht,t<2]
   ·rw[Vq,ht];rw[Vv];rw[Ut,W,z,h3];rw[Wo];rw[TC,skx,z];rw[Tz,z];·rw[Vw,z];obtain⟨⟨a1,a2⟩,a3,a4⟩:=z;rw[VV,g,v,a1];rw[Tk,d,f,U,q2,q3,G.tab t Ac];rw[BO a2]at g v h3|-;show aqn ht q2 (q3 EB) g U v (p7 a3) (Lj b a4) Nh w1 O (dO h3) H l0
    ·cases z
   ·rw[UY,ht];rw[Vv];rw[Ut,W,z,h3];rw[Wo];show pI Nh w1 O (dO z) H l0 (Lj (.tab t b) h3)
  ·rw[Vf];rw[Ul,Bdj];let z:=Ck;rw[Tz,z];·rw[UE,r,w];show aqU G A M Z w z
   ·cases z
  ·show aqV G A P E0 l0 h
 ·rw[Tf]
|.saU a d i e,o,τ,q,p,Z,h=>by
 let P:=Sd;rw[VH];rw[Tn];·rw[Vv];rw[Ut,⟨W,h1,z⟩,h3,D];rw[Wo];show aoU Nl G.cls (eI h1) (kJ z) (Ajj h3) (MJ D)
 ·rw[Tf]
|.sdm a d i e,o,τ,q,p,Z,h=>by
 let P:=Sd;rw[VH];rw[Tn];·rw[Vv];rw[Ut,⟨W,h1⟩,h3,D];rw[Wo];show aoV Nl G.cls (eI h1) (Ajj h3) (MJ D)
 ·rw[Tf]
|.aug i e,o,τ,q,p,Z,h=>by
 let P:=Sd;rw[VH];rw[Tn];·rw[Vv];rw[UJ,⟨W,h1,z⟩,h3];rw[Wo];rw[Te,w1,O,H,A.yK h1];show aoR Nh w1 O H z (MJ h3)
 ·rw[Tf]
|.put i kk e,o,τ,q,p,Z,h=>by
 let P:=Sd;rw[VH];rw[Tn];·rw[Vv];rw[UJ,⟨W,⟨h1,z⟩,h3,D⟩,L];rw[Wo];show aoZ G.W.units (Aak h1) (Aak z) (kJ D) (aqS h3) (MJ L)
 ·rw[Tf]
|.app i e,o,τ,q,p,Z,h=>by
 let P:=Sd;rw[VH];rw[Tn];·rw[Vv];rw[UJ,⟨W,h1,z,h3,D⟩,L];rw[Wo];rw[BO z];show aoW Nl (Aak h1) (dO Ab) h3 (eH Ab) (aeE h3) D (MJ L)
 ·rw[Tf]
|.ext i e,o,τ,q,p,Z,h=>by
 let P:=Sd;rw[VH];rw[Tn];·rw[Vv];rw[UJ,⟨W,h1,z,h3,D⟩,L];rw[Wo];rw[BO z];show aoX Nl (Aak h1) (dO Ab) h3 (eH Ab) (aeE h3) D (MJ L)
 ·rw[Tf]
|.expr e,o,τ,q,p,Z,h=>by
 let P:=Sd;rw[VH];rw[Tn];·rw[Vv];rw[UJ,⟨W,h1⟩,z];rw[Wo];show aoO (kJ h1) (MJ z)
 ·rw[Tf]
|.ret e,o,τ,q,p,Z,h=>by
 let P:=Sd;rw[VH];rw[Tn];·show aoP (MJ h)
 ·rw[Tf]
|.raise j es,o,τ,q,p,Z,h=>by
 let P:=Sd;rw[VH];rw[Tn];·rw[Vv];rw[UJ,⟨h1,z,h3,D,L⟩,I];rw[VV,g,v,h1];obtain⟨C,Y,u,l,U,q2,q3,q4,q5⟩:=G.sbm j (Cm h3);rw[BO z]at g v|-;show aqh q2 q3 G.p9 q4 M.F q5 QH g U v (BO L) (BO D) (io I) (bD es G A P I).a
 ·rw[Tf]
|.ite e a b,o,τ,q,p,Z,h=>by
 let P:=Sd;rw[VH];rw[Tn];·rw[Vo,h];show aoQ (MJ Bk) (eJ G A M a (Cfe j) JN) (eJ G A M b (Cfe j) DI)
 ·rw[Tf]
|.wW e b,o,τ,q,p,Z,h=>by
 let P:=Sd;rw[VH];rw[Tn];·rw[Vo,h];rw[Ul,Bdj];show ao_ (qh M.F) (MJ JN) (eJ G A M b (Cfe j) DI)
 ·rw[Tf]
|.xB i it b,o,τ,q,p,Z,h=>by
 let P:=Sd;rw[VH];rw[Tn];·rw[Vv];rw[Ut,⟨W,h1,z,h3⟩,D,L];rw[Wo];rw[TZ,x,xp,e2,_,_,J,qf A Nh z];let hI:=sI it G A P D;rw[xT]at h1;rw[h1]at hI;show ao3 (qh M.F) QH (qd h3) hI (J N) (eJ G A M b (Cfe j) L)
 ·rw[Tf]
|.ww i j it b,o,τ,q,p,Z,h=>by
 let P:=Sd;rw[VH];rw[Tn];·rw[Vv];rw[Ut,⟨W,h1,z,h3⟩,D,L];rw[Wo];obtain⟨x,y,p1,Q,kk,tp,e2,_,J⟩:=qg A QH Nh z;let hI:=sI it G A P D;rw[h1]at hI;show ao4 (qh M.F) QH (qd h3) hI (J N Nl) (eJ G A M b (Cfe j) L)
 ·rw[Tf]
|.zT i e,o,τ,q,p,Z,h=>by
 rw[VH];rw[Tn];·rw[Vv];rw[UJ,⟨h1,z,h3,D,L,I,h7⟩,h8];rw[VV,g,v,h1];obtain⟨R,U,q2,q3⟩:=G.ref;rw[BO z]at g v|-;rw[BO I,BO h7];show aql M.F q2 q3 g U v Nh [Eb,A.N,eI h3] [Eb,Aoy,fX D] (kG L).1 (eH Ab) λxe pn n P'=>sE e (G.xt xe pn) (A.xt xe pn) P' h8
 ·rw[Tf]termination_by structural s=>s
theorem eJ(G:JW N T c k X)(A:Kd)(M:Fm N T Er fi src X E S):∀(B:Ss){o:Aai}{τ C0:tL}{l:Acz},(∀j,o=Ae j->src.drop j=l)->yM T fi B o τ C0 S l=Aa->yF N X E Aiu m C0 l B
|.nil,o,τ,C0,l,Z,h=>by rw[Tu,yM];rw[Vf];rw[Ul,Bdj];rw[scI.mp Ck];show aoM
|.cons s B,o,τ,C0,l,Z,h=>by
 rw[Tu,yM];rw[Tn]
 ·rw[UE,p,l];rw[Vf];show aoN (sS G A M s (AV j e) Bk) (eJ G A M B (AV j e) Ck);·let:=Z j e;rw[<-List.head?_drop,this];rfl
  ·cases o with|none=>rw[Tr]|some j0=>rw[VM,j0+1=j,GF e];rw[<-sdX,Z j0 Ab];rfl
 ·rw[Tf]termination_by structural s=>s
end
end
end sj
namespace sj
open PySem PySem.Spec PyProof.Rows L2
def aeF{J:Bq}:∀{l:Dl}{r:LJ},Ah=Ic->x∈l->∃v,JK (Aaj r) x=Fj
|[],_,_,h=>JA h Ag
|y::l,[],e,_=>Aq
|y::l,v::r,e,h=>by
 rw[sfO,tX];rw[Td,c,x=y];·simp_all
 ·rw[Arl c];show aeF Ag Ag
def aqW{J:Bq}:∀{l:Dl}{r:LJ},Ah=Ic->GW l->Ctj (λn=>((l.zip r).lookup n).map (n,·))=Aaj r:=by
 let C:∀(l:Afi)(r:Afi)(m:Na J),Ah=Ic->GW l->(Amt (m.lookup x=JK (Aaj r) x))->Ctj (λn=>(m.lookup n).map (n,·))=Aaj r:=by intro l;induction l with|nil=>simp|cons x l d=>intro r m e k h;cases r with|nil=>grind|cons v r=>rw[yS]at k;let H:=h x RO;rw[sfO,tX,sfM]at H;rw[sc1,H];change(x,v)::_=_;rw[d r m Ag k.2 _,sfO];grind[List.zip_cons_cons]
 intro l r e k;show C l r _ e k Kv
def aeG(Y:sbl fd.params=Aa)(j:fd.defaults=BM)(k:GW Czd)(U:Cup=AG Czd):Csw fd us=Ek ((fd.params.args.map (·.arg)).zip us):=by
 simp[sbl,si,scI,siy]at Y;obtain⟨G,z,F,D,L,I⟩:=Y;let H:(((fd.params.args.map (·.arg)).take ((fd.params.args.map (·.arg)).length)).filter λn=>(((fd.params.args.map (·.arg)).zip us).lookup n).isNone)=[]:=by rw[List.filter_eq_nil_iff];intro x O;rw[Tc,v,e,aeF U.symm (scw O)];grind
 let B:=aqW U.symm k;obtain⟨S,q,⟨W,A,M,h,b,a,m⟩,Z,i,s,r,c,f,d,X,C,E,J,p⟩:=fd;dsimp only at G z F D L I j H B k U;subst G z F D L I j;rw[Ti,g,seqItems? Bjg=Ek _];rw[Uc,l,¬(us.length>(A.map (·.arg)).length)]
 simp only[bindArgs,yY,sfp,ud,List.forIn_nil,pure_bind,g,sgF,sdk,Nat.sub_zero,List.drop_nil,l,decide_false,vG,um,tO,H,List.isEmpty_nil,shX,sh4,List.zip_nil_left,B]
def slT(u:FuncData):Dl:=u.params.args.map (·.arg)
def scS:BU Dl|[]=>true|x::l=>! Acp x&&scS l
def kK:∀{l:Dl},scS l=Aa->GW l|[],_=>List.nodup_nil|x::l,h=>by rw[TM,(! Acp x&&scS l)=Aa];rw[Vf];show yS.mpr [Aj,Aq,kK Ck]
def seg(N P:Dl)(i:Scope):Bh:=(match i.kind with|.function=>true|_=>false)&&(! i.isCoroutine&&(! i.isGenerator&&(scS N&&([HL,N.take Atk,P,(P.all λx=>saA (Agc x)||yJ (Agc x)),i.names.all λy=>match y.2 with|.free=>false|_=>true]))))
def fZ(h:seg N P i=Aa):sc9 N P i:=by simp only[seg,si,xT,tZ,vc]at h;obtain⟨G,z,F,D,L,I,T⟩:=h;show⟨?_,z,F,kK D,Ag,λx O=>(I x O).imp fX ik,GX y Q⟩;all_goals grind
def sbn(u:FuncData):Bh:=u.globals==LZ&&(u.builtins==Bpr&&(u.closure.isEmpty&&(sbl u.params&&(match u.defaults with|.none=>true|_=>false))))
def qj{K:PySem.W.Frag}(h:sbn u=Aa)(k:GW Afc):Auu K u Afc:=by simp[sbn,si]at h;obtain⟨_,_,_,D,L⟩:=h;show Binds.all λW U=>aeG D Ag k U
def ya(u:FuncData):Acz:=match u.body with|.stmts b=>b|_=>[]
def sf9(u:FuncData):Bh:=match u.body with|.stmts _=>true|_=>false
def aqX(h:sbn u=Aa)(T:sf9 u=Aa):u=PySem.W.fnOf u.name Od u.params (ya u) Kt u.defaults u.kwdefaults u.doc u.pyModule u.annotations QS u.closureTuple:=by rw[Vz,sbn,si,h];rw[VP,G,z,F,_];obtain⟨S,q,l,Z,i,s,r,c,f,d,X,C,O,I,p⟩:=u;let W:=BO G;let N:=BO z;let J:=scI.mp F;cases Z with|stmts b=>subst W N J;rfl|expr b=>cases T
def aeH{K:PySem.W.Frag}(b:Agn f=Ai)(R:IC=Cbm)(j:sbn u=Aa)(T:sf9 u=Aa)(G:Cfv QS Od=Aa)(S:sc9 N Afc Kt)(W:∀J H Q E,c J H Q E->BR=An Bqx)(e:∀(A:Around)(X:Ox)(s:Shared)(H:Hp)(J:Ba)(Q:VK)(E:XK),tS k (Bkh (Alh Od Kt f QS))->c J H Q E->∃t,vm (u3 a P w K n C N Od Kt f QS A X s H E) (ya u) t/\t [Chf,M,Q Bt M] (Bsw J) H):sR P w K n C a (k+1) f u Afc c:=by rw[Yt,m,D,O];subst R;rw[Ud,aqX j T,b];show qY b G S W e
theorem XR.take(r:XR N B H x Y):XR N (Brj) H x Y:=by obtain⟨a,G,z,F,D⟩:=r;rw[TU,a,G,z.take,F,D.take]
theorem Fm.w(M:Fm N T I f s X E S)(g:Ez):Fm Br T I f s X E S:=Am M.F M.lam M.nT
def aeI{K:PySem.W.Frag}:skb a (u3 a P w K n C N q i f O A X s H E) E:=Gd Ab Ab Ab Arv
def sbo(T:Tb)(K:PySem.W.Frag)(a:Addr)(f:Nat)(N:Dl)(I:Fn)(t:tL):Bh:=Cxx a [Czf,(sbn u&&(sf9 u&&(Cfv QS Od&&Bxh K Be)))&&((seg N Afc Kt&&(RT==An Bqx&&(I.ns==AG N&&(Bn RT [AG,N]&&Bl [AG,N] 99))))&&yM T f Cdn (Ae 0) t t [AO,N,Kt,Aa,Kt] (ya u))]
def aqY{O:FD}(h:Aiy (Aqf++Azb n)=Ea):O[i]?=Ea:=Cqg
theorem args_get{O:FD}(h:O[i]?=Ea):Aiy (Aqf++Azb n)=Ea:=Cqg
def aqZ(h:sbo T AS a f y I D0=Aa)(H0:∀O st,cl' f O st=zW c m I O st)(hG:∀A X s H E u,tS (k+40) (Bkh (Alh Od Kt a QS))->seg y Afc Kt=Aa->Gm N T l0 c k (u3 (sbi P w l0) P w AS n C y Od Kt a QS A X s H E))(hM:∀A X s H E o u,N.K.lookup a=Ai->IC=Cbm->Fm N T l0 f (ya u) (u3 (sbi P w l0) P w AS n C y Od Kt a QS A X s H E) E [AO,y,Kt,Aa,Kt]):∃u,sR P w AS n C (sbi P w l0) (k+41) a u Afc (wh N cl' f RT D0)/\Auu AS u Afc/\Bxh AS Be=Aa:=by
 rw[Tu,sbo];rw[Tn]
 ·rw[UE,o,b];rw[Tn]
  ·rw[UE,u,hf];rw[Vv];rw[Ut,⟨h1,h2,F,D⟩,⟨h5,h6,h7,Z,h9⟩,bC];let S:=fZ h5;let J0:=BO h6;let P0:I.ns=CK:=BO h7;let h9:CK<99:=Cm h9;let Z:RT<=CK:=Cm Z;let O0:GW Afc:=by rw[<-S.pre];show Csr (sgy _ _)
   rw[Ts,u,aeH b hf h1 h2 F S (λJ H Q E q=>(CG).trans J0) (λA X s H J Q E hr sp=>?_),qj h1 O0,D];obtain⟨hl,g,O,B,st,r,R,ty,W⟩:=sp;let G:=hG A X s H E u hr h5;let M:=hM A X s H E o u b hf;let G0:At [AO,y,Kt,Aa,Kt] (u3 (sbi P w l0) P w AS n C y Od Kt a QS A X s H E):=AO Ab Ab Kv Kv;rw[Te,t,pt,qt,eJ (m:=m) (G.w g) G0 (M.w g) Cdn (o:=Ae 0) (λj e=>Aq) bC];let I0:LF=RT:=DT Cnl hl;rw[H0]at W;rw[TC,zW,W];rw[Ux,I0,W];let hE:RE Br D0 B H (start y J) (Aqf++Azb (I.ns-RT)):=by
    let lv:BR=LF:=Om Cnl;show⟨?_,?_,GX i d,JQ⟩;·grind[L2.start,List.length_append,List.length_map,List.length_replicate]
    ·grind
    ·rw[Te,v,U,q2,p6 r (aqY e)];grind[L2.start,List.getElem?_append_left,List.getElem?_map]
    ·rw[Te,d,U,q2,ty p Y];rw[Tp,d,args_get U,q2]
   rw[Tp,t,pt,qt _ H B _ st _ hE R ?_];let eB:Iv=RJ:=R.len;change vS Br D0 B H _ E (Ml c Cdn (Aqf++Azb (I.ns-RT)) st);cases C0:Ml c Cdn (Aqf++Azb (I.ns-RT)) st with
   |ok fl E0=>
    rw[C0]at W;cases fl with
    |next Q0=>showλU0 H' L l z _=>W Bt H' _ l.take [Eb,eB,Cia] Ab
    |ret d=>
     let W:sW Br B H Q E ([Aub,Abi=Aa,Jd (E0.take Iv)]):=W;rw[Td,Y,Abi=Aa];·rw[Ux,Y,W];showλv H' L l z r=>W v H' _ l.take [Eb,eB,Cia] (Ayt (r.pure Y).take)
     ·rw[Uz,Y,W];show W.elim
   |err x E0=>rw[C0]at W;showλc dx H' L l z r=>W c dx H' _ l.take [Eb,eB,Cia] r.take
   |stuck=>rw[C0]at W;show W.elim
  ·rw[Tf]
 ·rw[Tf]
inductive IS where|par(i:Nat)|int(i:Int)|sD
def IS.v(J:Ba):IS->V|.par i=>J.getD i Bt|.int i=>CI|.sD=>Bt
def vC(S:Sx):IS->Ahb|.int i,.Constant (.int j) _ _=>i==j|.int i,.UnaryOp .USub (.Constant (.int j) _ _) _=>i==-j|.sD,.Constant .none _ _=>true|.par i,.Name x _=>Bhj|_,_=>false
def IS.ok(n:Nat):JH IS|.par i=>i<n|_=>True
section
variable{X:Cx}{S:Sx}{E:XK}
def ip(h:i<BR):(Bqc J)[i]?=Bjy (J.getD i Bt):=by unfold L2.start;rw[xK Cqb,tD,w_,Dz h];rfl
def aeJ(A:Kd)(h:vC S s e=Aa):∃t:TE,DF e t/\∀N J H Q,s.ok BR->Jn (s.v J)->t (Bqc J) H Q:=by
 rw[Tu,vC];rw[Tn];·rw[Ua,kQ,λN J H Q _ q=>by rw[<-BO h];show q]
 ·rw[Ua,qH qI kQ,λN J H Q _ q=>Azd _];let:=BO h;rw[VF];show q
 ·rw[Ua,qz,λN J H Q _ q=>q]
 ·rw[Ua,Aak h,λN J H Q o q=>HV (ip o) q]
 ·rw[Tf]
def aeK:∀{I:Apf},f∉Avm->Acd I=I++[(f,v)]|[],_=>rfl|(g,x)::r,h=>by rw[tz,yQ,not_or]at h;change Oy (g=f)=_;rw[Aje (uc Bk),aeK Ck];rfl
def saE(S:Sx):Na IS->BU Acz|[],l=>l.isEmpty|(f,s)::r,l=>(match l with|.Assign [.Attribute (.Name x _) g _] v _::l=>(Bxx 0&&(g==f&&(tR v&&vC S s v)))&&saE S r l|_=>false)
def aeL(A:Kd)(c:v_ Ar C):∀{r:Na IS}{l:Acz},(∀p∈r,xw Ar C Ax)->saE S r l=Aa->∃t:TS,vm X l t/\∀N J H a Y I D,J[0]?=Ex a->AM=Abs->(∀p∈r,(BE).ok BR)->GW (I.map (·.1)++r.map (·.1))->KN+Ic<BI->D.nx (Bqc J) (HG (Aaa Y (I++r.map λp=>(Ax,(BE).v J))))->t D (Bqc J) H
|[],l,O,h=>by
 rw[Tu,saE];rw[Caj];rw[Ua,ir,λN J H a Y I D B G _ _ _ q=>?_];rw[yY,ud]at q;let:HG (Aaa Y I)=H:=by
  funext b;rw[Um,b=a];·rw[e,ac,G]
  ·rw[ai e]
 rw[UI,this];show q
|(f,s)::r,l,O,h=>by
 rw[Tu,saE];rw[Tn]
 ·rw[Vv];rw[UJ,⟨G,z,F,Q⟩,L];rw[Te,t,T,y,aeJ A Q];rw[UT,M,j,aeL A c (Aba P (O p (Oo P))) L];rw[BO z];rw[Ua,iu (qR (Aak G) T (dO F)) M,λN J H a Y I D B o Z k U q=>?_];show y N J H _ (Z (f,s) RO) ⟨Be,?_,a,C,Y,I,Ab,o,c,O (f,s) RO,AE,?_⟩
  ·let R:=(Dj B).1;rw[Wl,e,J.getD 0 Bt,Be,w_,B]
   rw[ip R,e]
  ·rw[Tx,n,f∉Avm,W,by rw[List.nodup_append]at k;show k.2.2 f W f [Eb,tz,Bax] Ab]
   rw[aeK n];show j N J _ a Y _ D B ac (Aba P (Z p (Oo P))) ?_ (by rw[su,s0];rw[Up,sT];omega) ?_;·rw[xI,uk];show k
   ·rw[kL,uk];show q
 ·rw[Tf]
end
def zA:Aw->Na IS|5=>[(Btj,.par 1),(Bkq,Pm)]|6=>[DA DG]|c=>IP (Agw).zipIdx p (Ax,.par (BE+1))
def aeM(L:c<7)(U:OM=NL):(IP Azo p (Ax,(BE).v (x::W)))=SX (zw c W)/\(∀p∈Azo,(BE).ok [IV,x,W])/\GW ((([]:List (Str×V)).map (·.1))++(zA c).map (·.1))/\An Azo<BI/\∀p∈Azo,Ax∈Auv:=by
 match c,L with
 |0,_=>match W,U with|[a,b,d,e],_=>rw[TU,Ab,Ccr zA xl,K_,DC,K_]
 |1,_=>match W,U with|[a,b,d],_=>rw[TU,Ab,Ccr zA xl,K_,DC,K_]
 |2,_=>match W,U with|[a,b,d,e],_=>rw[TU,Ab,Ccr zA xl,K_,DC,K_]
 |3,_=>match W,U with|[a,b,d],_=>rw[TU,Ab,Ccr zA xl,K_,DC,K_]
 |4,_=>match W,U with|[a,b,d],_=>rw[TU,Ab,Ccr zA xl,K_,DC,K_]
 |5,_=>match W,U with|[a],_=>rw[TU,Ab,Cpa zA,K_,DC,K_]
 |6,_=>match W,U with|[],_=>rw[TU,Ab,Cpa zA,K_,DC,K_]
def wn(K:PySem.W.Frag)(a:Addr)(n:Nat)(sbp:Sx->BU Acz):Bh:=Cxx a [Czf,(sbn u&&(sf9 u&&Cfv QS Od))&&((seg Afc Afc Kt&&An Bqx==n)&&sbp [AO,Bqx,Kt,Aa,Kt] (ya u))]
def qk{K:PySem.W.Frag}(h:wn K a n sbp=Aa)(W:∀J H Q E,c J H Q E->BR=n)(T:∀(N:Dl)(q:Str)(i:Scope)(O:Value)(j:Acz)(A:Around)(X:Ox)(s:Shared)(H:Hp)(E:XK),GW N->tS k (Bkh (Alh q i a O))->sbp [AO,N,i,Aa,i] j=Aa->∃t:TS,vm (u3 B P w K m C N q i a O A X s H E) j t/\∀J Q,c J H Q E->t [Chf,M,Q Bt M] (Bqc J) H):∃u l,sR P w K m C B (k+1) a u l c/\Auu K u l:=by
 rw[Tu,wn];rw[Tn]
 ·rw[UE,o,b];rw[Tn];·rw[UE,u,R];rw[Vv];rw[Ut,⟨G,z,F⟩,⟨L,I⟩,bC];let S:=fZ L;rw[Ts,u,Bqx,aeH b R G z F S (λJ H Q E q=>DT (W _ _ _ _ q) [Om,BO I]) (λA X s H J Q E D c=>?_),qj G S.nd];rw[Te,t,p,y,T Afc Od Kt QS (ya u) A X s H E S.nd D bC];rw[Tp,t,p,y J Q c]
  ·rw[Tf]
 ·rw[Tf]
def qp{K:PySem.W.Frag}:At [AO,N,i,Aa,i] (u3 a P w K n C N q i f O A X s H E):=AO Ab Ab Kv Kv
def aq_(L:c<7)(C:scB N AS)(h:wn AS a (NL+1) (λS b=>saE S (Azo) b)=Aa):∃u l,sR P w AS mg DU CX (k+1) a u l (sd9 N c)/\Auu AS u l:=by
 show qk h (EA v H Q E q) λf q i O j A X s H E n m Z=>?_;·rw[XO,x,Y,W,rfl,U];rw[sT,U]
 ·rw[TW,g,∀p∈Azo,xw AS IN Ax,p,F,by let I:∃W:Ba,OM=NL:=Aj [LW,(NL),Bt] AY;obtain⟨W,d⟩:=I;show C.no c Ax L ((aeM L (x:=Bt) d).2.2.2.2 p F)]
  rw[Te,t,T,y,aeL (X:=u3 CX P w AS mg DU f q i a O A X s H E) qp (C.cls c L) g Z];rw[Tp,t,T,Bz v Q M];obtain⟨x,Y,W,rfl,U,o,G⟩:=M;rw[Tk,e,D,J,B,R,aeM L (x:=OX) U];show y f _ H x Y [] _ Ab o D J (by simpa using B) ?_;rw[sfp,e];show G
section
variable{X:Cx}{S:Sx}{E:XK}{isX:Addr->Prop}
def seh(S:Sx):Eg IS->BU Hs|[],R=>R.isEmpty|s::r,R=>(match R with|e::R=>(tu e&&vC S s e)&&seh S r R|[]=>false)
def aeN(A:Kd):∀{r:Eg IS}{R:Hs},seh S r R=Aa->∃t:TA,Ajm R t/\∀N J H Q,(∀s∈r,s.ok BR)->Ov (r.map (·.v J))->t (Bqc J) H Q
|[],R,h=>by rw[Tu,seh];rw[Caj];rw[Ua,cY,λN J H Q _ q=>q]
|s::r,R,h=>by
 rw[Tu,seh];rw[Tn];·rw[Vv];rw[UJ,⟨G,z⟩,F];rw[Te,t,T,y,aeJ A z];rw[UT,M,j,aeN A F];rw[Ua,bL T M (aC G),λN J H Q o q=>y N J H _ (o s RO) (j N J H _ (λs P=>o s (Oo P)) q)]
 ·rw[Tf]
def sei(S:Sx):BU Acz|[.Assign [.Attribute (.Name x _) g _] (.Name y _) _]=>Bxx 0&&(S.var 1 y&&g==Fd)|_=>false
def aq0{K:PySem.W.Frag}(p:∀C,Aed->sec K C)(h:wn K a 2 sei=Aa):∃u l,sR P w K mg DU CX (k+1) a u l (ske K Er)/\Auu K u l:=by
 show qk h (EA J H Q E q) λf q i O j A I s H E N M Z=>?_;·rw[XO,a,C,t,y,rfl];rfl
 ·rw[TC,sei,Z];rw[Tz,Z];·rw[Vw,Z];obtain⟨G,z,F⟩:=Z;rw[BO F];let B:At [AO,f,i,Aa,i] (u3 CX P w K mg DU f q i a O A I s H E):=qp;rw[Ua,iu (aqb (B.var G) (B.var z) (dO Ab)) ir,Bz J Q L];obtain⟨x,C,t,y,rfl,c,o,D⟩:=L;show⟨y,ip (Bbg (1<2)),OX,ip (Bbg (0<2)),x,C,t,Ab,o,p C c,D⟩
  ·cases Z
def scT:Aw->Eg IS|0=>Abu 1|1=>Abu 2|2=>Abu 3|3=>Abu 3|4=>Abu 4|5=>Abu 5|6=>[Byu 6,Akl,.par 1]|_=>Abu 9
def aq1(C:j<8)(U:OM=uY j):Bp (scT j) (·.v (x::W))=scN j W/\∀s∈scT j,s.ok [IV,x,W]:=by
 match j,C with
 |0,_=>match W,U with|[],_=>rw[VY,Bcr]
 |1,_=>match W,U with|[],_=>rw[VY,Bcr]
 |2,_=>match W,U with|[],_=>rw[VY,Bcr]
 |3,_=>match W,U with|[],_=>rw[VY,Bcr]
 |4,_=>match W,U with|[],_=>rw[VY,Bcr]
 |5,_=>match W,U with|[],_=>rw[VY,Bcr]
 |6,_=>match W,U with|[a],_=>rw[VY,Bcr]
 |7,_=>match W,U with|[],_=>rw[VY,Bcr]
def sej(I:Str)(j:Nat)(S:Sx):BU Acz|[.Expr (.Call (.Attribute (.Name r _) g A) [.Name x _,.List R _] [] u) _]=>(S.gl r&&(r==I&&(g==Aco&&(Bxx 0&&Bky A==Fu u))))&&seh S (scT j) R|_=>false
def aq2(j:Nat):An (scT j)<=3:=by unfold scT;split<;>decide
def aq3{K:PySem.W.Frag}(hj:j<8)(C:sf1 K R Aco M)(F:sR P w K n l0 (Bxk P w) k M u l (ske K Er))(T:Auu K u l)(hm:n rf=Ex R)(h:wn K a (uY j+1) (sej rf j)=Aa):∃u l,sR P w K n l0 (Bxk P w) (k+1) a u l (scL Er (uY j) (scN j))/\Auu K u l:=by
 show qk h (EA J H Q E q) λf q i O H0 A D0 s H E nd hr Z=>?_;·obtain⟨a,C,t,us,rfl,U,_⟩:=q;rw[sT,U]
 ·rw[TC,sej,Z];rw[Tz,Z]
  ·rename_i r rp g ap x xp es lp cp c;rw[Vw,Z];rw[XM,⟨G,z,h3,D,L⟩,I];let B:At [AO,f,i,Aa,i] (u3 (Bxk P w) P w K n l0 f q i a O A D0 s H E):=qp;rw[Tc,g1,v,B.gl G];rw[BO z]at g1 v|-;rw[BO h3];rw[Te,t,pt,y,aeN B I];rw[Ti,G0,Gv ([NW xp,.List es lp]:Hs) tu=Aa];rw[Ua,iu (iv (aqc (X:=u3 (Bxk P w) P w K n l0 f q i a O A D0 s H E) C F hr g1 hm T (pV aeI) (bL (B.var D) (bL (k7 pt) cY Ab) Ab) v Ab Ab (aex G0 (Bbg (2<9)) L)) (dO Ab)) ir,Bz J Q c];obtain⟨b,m,d,us,rfl,U,hC,o,hq⟩:=c;rw[Tc,W,N,aq1 hj (x:=Nv) U];rw[Tp,Nv,ip (Dfa),y f _ H _ N [Pu,JQ]];·rw[sr];show EI (aq2 j) (Cmz)
   ·rw[UF,ne,p,b,e,by rw[e,o]at Y;cases Y]
    show[DB,b,m,d,SO,Ab,hC,by rw[Awp ne];show o,Bz dx hd E0];rw[UF,C0,dx,p,e,by rw[e,ac]at hd;cases hd]
    rw[ai C0]at hd;rw[W];show hq p dx Y hd ne E0 C0
  ·cases Z
end
structure sbq(P:Program)(N:Nm)(T:Tb)(isX:Ayh)(mg:BG->EU)(base:Heap)(prog:Bhs Fn)(sl:Aw->Dl)(w:World):Al where
 tree:P.given.tree=Ad
 seer:base.NoSeer
 sbp:∀f np tys,Ari=Ep np tys->∃fn,Cko=Ae fn/\fn.np=np/\sbo T AS Ig f (sl f) fn tys=Aa
 nm:∀f x,T.nm f=Bi->mg x=Ex Ig
 cn:∀c,c<7->mg (T.cn c)=Ex IN
 saD:∀c,c<7->∃fI,Mk AS IN fI/\wn AS fI (NL+1) (λS b=>saE S (Azo) b)=Aa
 cls:scB N AS
 x8:∀c m f,(c,m,f)∈T.x8->saN AS IN m Ig
 tab:∀t,t<3->∃d f,mg (T.tn t)=Ex d/\(∀h,N.K.In h->Brn Aoq f)/\∀g,saz Br t f
 con:∀p∈T.con,∃v u,mg Ax=BW/\KQ/\∀g B H,Aqt Br BE v
 blt:∀x∈see,mg x=Ad
 sbm:∀j,j<8->∃C fI,mg (T.xn j)=Aug/\scM AS C fI/\wn AS fI (uY j+1) (sej T.rf j)=Aa/\Aed
 ref:∃R fR,mg T.rf=Ex R/\sf1 AS R Aco fR/\wn AS fR 2 sei=Aa/\(∃f,scM AS R f)/\∀C,Aed->scO AS R C
 xc:∀C,Aed->sec AS C
 uf:∀f,(uf Cc f=Aa->Ari=Ep 2 Aao)/\(uf 101 f=Aa->Ari=Ep 2 [(0,6)])
 lam:∀g L,Bgw g=Aoz->scP L FV/\GW ((FV:BG)::OW)/\Aqc<90/\∃fn eb,prog g=Ae fn/\fn.np=Aqc+1/\fn.ns=fn.np/\fn.body=EJ (NV eb)/\KH T [] eb [AO,FV::OW,QK,Af,DL Oh [] Af Af []] Amh=Aa
 sky:∀f o fd g j s r,N.K.lookup Ig=Ai->IC=.func fd->T.sbk g=Ep f j->(ya fd)[j]?=G_->yL s=Ae r->∃q Ta cc,Bgw g=As [Anx,(sl f)]/\Csi++Cru++Bbk=(Anx (sl f)).qual/\(∀env,Bqh r.ps env=Bww)/\(∀L':Fx,Bjj r.sc (envOfC Csi fd.scope L' Ig fd.code)=Ek ((Anx (sl f)).sG.map λx=>(x,Amq ((envOfC Csi fd.scope L' Ig fd.code).cells.lookup x))))/\fd.code=AC cc/\Bxz DU cc Ta/\LZ≠Ta/\Cqj Ta/\DX Ta (Anx (sl f)).qual N.tb/\(Anx (sl f)).sG.Nodup
 nT:Coq (CG=r.1->q=r)
section
variable{N:Nm}{T:Tb}{isX:Addr->Prop}{prog:Nat->Option Fn}{sl:Nat->List Str}{m:Nat}
def aq4:∀(n f:Nat)(O:FD)(st:sd)(d:Core.D)(S:sd),Core.y9 prog m n f O st=Jd S->Abi=Aa
|0,f,O,st,d,S,h=>SF
|n+1,f,O,st,d,S,h=>by
 rw[TM,(Cow Cko AJ)=Jd _];rw[Tn]
 ·rw[Tu,zW];rw[Tn]
  ·rw[Tu,sdn];rw[Tn];·rw[Tf];rfl
   all_goals grind
  ·grind
 ·grind
def scU(P:Program)(w:World)(N:Nm)(T:Tb)(isX:Ayh)(n:BG->EU)(C:Heap)(c:Core.uF)(k:Nat):Al:=∀f v t,Ari=Ep v t->∃u l,sR P w AS n C (Bxk P w) (k+40) Ig u l (wh N c f v t)/\Auu AS u l/\Amb AS Ig=Aa
def scV(P:Program)(w:World)(N:Nm)(n:BG->EU)(C:Heap)(c:Core.uF)(k:Nat):Al:=∀f L,Bgw f=Aoz->∀g,siq Br P w AS n C c (k+39) FV f L
def aeO(Z:sbq By N T Er Fp DH prog sl BD)(H:Ar=AS)(F:scU By BD N T Er Fp DH (Auj) n)(L:scV By BD N Fp DH (Auj) n)(a:Ji=Aa)(o:HZ (n+40))(u_:∃p l,Oc=p::l/\Ddw p=Af/\Ddv p=Af/\p.builtins=Bpr/\p.globals=LZ)(k:X.N.Nodup):JW N T (Auj) n X:=by
 obtain⟨R,G,Q,P,O,U,s⟩:=Z.ref;show⟨BF H a o Z.tree Z.seer u_ k,λf v S e=>Cb H (F f _ _ e),Z.nm,Z.cn,AV c A,Z.cls,Ir c m f [Cb,H,Z.x8 c m f h],λt I=>Cb H (Z.tab t I),Z.con,Z.blt,aq4 n,λf d h g=>Cb H (L f _ h g),AV j D,Ag,Z.uf⟩;·rw[Te,Y,M,b,Z.saD c A];rw[Tj,u,J,F,B,aq_ (P:=X.prog) (w:=X.w) (mg:=X.mg) (base:=X.base) (CX:=Cxk) (k:=n+29) A Z.cls b];grind
 ·rw[TZ,C,Y,E,W,r,q,Z.sbm j D];rw[Tj,i,w,x,y,aq0 (P:=X.prog) (w:=X.w) (mg:=X.mg) (base:=X.base) (CX:=Cxk) (k:=n+28) Z.xc O];grind[aq3]
def aq5:wH N X E C O (Jx 99):=by
 rw[Tp,Kh _ Agm,λP s D H Q I h=>h.elim,Bil D B A Q r S h];rw[US,Asp];let:Auo A 99=Ad:=Agj Core.uj (zj (sby r.vK))
 rw[Tg,this];show h
variable{P:Program}{w:World}{mg:Str->Option Value}{base:Heap}
def aq6(Z:sbq P N T Er mg DU prog sl w):scV P w N mg DU (Bne 0) 0:=λf L W g=>by
 rw[Tj,J,k,vK,_,Z.lam f L W];show[BF,J,vK,Bne 0,m,_,BV d O st U,λa C M A X s H h=>aq5];change sA.stuck=SQ _ (sA.bind (sA.bind (Asp) _) _);let:Auo (Ea::Aqf) 99=Ad:=Cqg
 rw[this];rfl
def aq7(Z:sbq P N T Er mg DU prog sl w)(F:scU P w N T Er mg DU (Auj) n)(L:scV P w N mg DU (Auj) n):scV P w N mg DU (Bne (n+1)) (n+1):=λf b W g=>by
 obtain⟨J,k,vK,I,l,G,z,R,D,C⟩:=Z.lam f _ W;show[BF,J,vK,Auj,m,l,BV d Q st U,λa O M A X s H E=>?_];·change(Cow Cko AJ)=_;rw[We,zW]
 ·let B:At [Ky,_,Af,DL Oh [] Af Af []] (scQ P w AS mg DU (FV::b.uo) b.qual b.scope a O M A X s H):=[AO,Ab,Ab,GG Ag,λx h=>Ag];show sE _ ((aeO (X:=scQ P w _ _ _ _ _ _ a _ _ A X s H) Z Ab F L Ab E [BF,_,_,Ab,J.gen,J.co,Ab,Ab] k).w g) B (ad0) C
def aq8(Z:sbq P N T Er mg DU prog sl w):scU P w N T Er mg DU (Bne 0) 0:=λf v t e=>by
 rw[Tj,I,G,z,h,Z.sbp f _ _ e];rw[Tu,sbo];rw[Tn]
 ·rw[Tn]
  ·rw[UE,u,R];simp at h;rw[Ut,⟨X,a,C,p⟩,⟨L,_⟩,_];let S:=fZ L;let o:GW Afc:=by rw[<-S.pre];show Csr Ag
   let g:∀J H Q E,wh N (Bne 0) f v t J H Q E->Agm:=λJ H Q E⟨_,_,_,_,_,_,_,_,q⟩=>q;rw[TU,_,_,[Aj,λJ H Q E q=>(g _ H Q E q).elim,λA O s H B W J Q E _ _ _ _ q=>(g _ H Q E q).elim],qj X o,p]
  ·grind
 ·grind
def aq9(Z:sbq P N T Er mg DU prog sl w)(F:scU P w N T Er mg DU (Auj) n)(L:scV P w N mg DU (Auj) n):scU P w N T Er mg DU (Bne (n+1)) (n+1):=λf v W e=>by rw[Tj,I,G,z,h,Z.sbp f _ _ e];rw[Tc,u,q,aqZ (cl':=Core.y9 _ m (n+1)) (m:=m) h (KA O [Chy,(Cow Cko AJ)=_]) (λA X s H E u D B=>aeO Z Ab F L Ab D [BF,_,_,Ab,(fZ B).gen,(fZ B).co,Ab,Ab] (fZ B).nd) (λA X s H E o u b R=>Am aeI (λg j d r S l y=>by obtain⟨q,C,a,U,J,t,i,M,k,Q,p,c,x⟩:=Z.sky f o _ g j _ r b R S l y;show⟨q,_,_,U,J,t _,i _,M,k,Q,p,c,x⟩) Z.nT)];grind
def aeP(Z:sbq P N T Er mg DU prog sl w):∀n,scU P w N T Er mg DU (Auj) n/\scV P w N mg DU (Auj) n|0=>[Aj,aq8 Z,aq6 Z]|n+1=>let⟨F,L⟩:=aeP Z n;[Aj,aq9 Z F L,aq7 Z F L]
end
def saF(C:Addr)(o:Obj):Bh:=HL Aea Bqd (match o.data with|.cls O=>! O.hasDel&&(match O.mro with|v::B=>HL v Lh [Cic,DN Chr] (Cic Bij&&(! Cic Cpo&&! Cic Cqu))|[]=>false)|_=>false) (match o.slots.toList with|[_,_,_,_,some v,_]=>AQ v [Lf,Cfk]|_=>false)
def sga(o:Obj):BA:=match o.data with|.cls O=>O.mro.tail|_=>[]
def aeQ(h:saF C o=Aa):∃(S q:Str)(N:Addr)(j I:BA)(r:Bool)(b:Dl)(n:BA)(c:Bool)(g:Jz Bh)(f:Mx)(R k U i A:EU),o=excClassObj S q C N j I r b n c g f R k U i A Cfk/\Tl Chr I/\I=sga o:=by
 rw[Yt,m,D,⟨y⟩];rw[Tu,saF];rw[Vo,h];rw[Ut,G,z,F];let W:m=Bqd:=Cm G;subst W;cases x with
 |cls O=>obtain⟨S,j,M,E,q,r,b,n,c,g,a⟩:=O;rw[Vb,z];rw[si,xT]at z;obtain⟨e,z⟩:=z;rw[Uo];cases M with|nil=>cases z|cons v I=>rw[Vb,z];rw[Vz,si,xT,z];obtain⟨J,X,L,H,p⟩:=z;let J:v=Lh:=Cm J;subst J;match y,F with|[R,k,U,i,some u,A],F=>let B:u=Lf Cfk:=Cm F;subst B;show⟨S,q,E,j,I,r,b,n,c,g,D,R,k,U,i,A,Ab,AO X L H p,Ab⟩
 |_=>cases z
def siz:FG->BU Eh|.int i,.int j _=>AQ i j|.str s,.str x _=>(KE==x)&&Bn Qc Alq|_,_=>false
def sek:FD->BU BA|[],W=>W.isEmpty|d::O,W=>(match W with|u::W=>siz d u&&sek O W|[]=>false)
def skz(K:PySem.W.Frag)(a:Addr):Jz (BA):=match Agn a with|some ⟨c,_,.seq i _,_⟩=>[Bo,c=Adm/\i.size<=BI,Ae Cad,Ad]|_=>none
def siA(K:PySem.W.Frag):FG->BU Eh|.tup C,.ref a=>(match skz K a with|some W=>sek C W|none=>false)|d,u=>siz d u
def sgb:FG->V|.int i=>CI|.str s=>Ft KE|_=>Bt
def aeR(h:siz d u=Aa):Ckp (sgb d)/\∀N B H,Aqt N d (sgb d):=by
 cases d<;>cases u<;>first|rw[Tf]|skip
 ·rename_i i j t;rw[VM,i=j,Aoo];rw[Th,SE,Kh _ Ab]
 ·rename_i s x t;rw[TM,((KE==x)&&Bn Qc Alq)=Aa];rw[Vf];rw[Ul,BO Bk];rw[Th,SE,Kh _ [Q_,Cm Ck]]
def aeS:∀{O:FD}{W:BA},sek O W=Aa->Ku (O.map sgb)/\∀N B H,Acw O (O.map sgb)
|[],W,h=>by rw[Tu,sek];rw[Caj];rw[Th,BY,Kh _ Ab]
|d::O,W,h=>by
 rw[Tu,sek];rw[Tn];·rw[Vf];rw[Tc,r,f,aeR Bk];rw[Tc,J,I,aeS Ck];rw[Th,Jo r J,λN B H=>[HH,_,f N B H,I N B H]]
 ·rw[Tf]
def ara{N:Nm}(h:siA AS d u=Aa):∃v,Ckp v/\∀g B H,Aqt Br d v:=by
 rw[Tu,siA];rw[Tn]
 ·rw[UE,C,a];rw[Tn]
  ·rw[UE,W,e];rw[Tc,J,I,aeS h];rw[Vu,Be,λg B H=>HH a Cba (I _ B H)];rw[TC,skz,e];rw[Tz,e]
   ·rename_i c D i n y b;rw[Tz,e];·rw[TF,L];rw[Tr];show DB _ i n b L.1 Ab [GN,L.2,Cmz] J
    ·rw[Tr]
   ·rw[Tr]
  ·rw[Tf]
 ·rw[Tc,r,f,aeR h];rw[Ua,r,λg B H=>f _ B H]
def sbr(K:PySem.W.Frag)(c C:Addr):Bh:=match Agn c with|some ⟨r,_,.fields J,_⟩=>Aml r [DN,"code"] [HL,J[11]?,Aug,(match Ckn 18,Ckn 7,Ckn 9,Ckn 10 with|.str _ _,.int _ _,.bool _,.int _ _=>true|_,_,_,_=>false),!(c==C)]|_=>false
def aeT{K:PySem.W.Frag}(X:K.In h)(e:sbr K c C=Aa):Bxz h c C:=by
 rw[TC,sbr,e];rw[Tz,e]
 ·rename_i r D v y b;rw[Vz,si,xT,e];obtain⟨W,N,J,B⟩:=e;let N:v[11]?=Aug:=Cm N;rw[Tz,J];·rename_i f a F w I T d U R t i;show⟨_,v,f,a,F,w,I,T,d,X _ _ b,Cm W,Ab,N,?_,U,R,t,i,siB.mp B⟩;rw[Array.getD_eq_getD_getElem?,N];rfl
  ·cases J
 ·rw[Tr]
def arb(h:∀y∈S.names,y.2=Kr->∃c,Cou=AW):Bjj S p=Ek (((S.names.filter λy=>y.2==.free).map (·.1)).reverse.map λx=>(x,(p.cells.lookup x).getD 0)):=by
 let C:∀(l:Anm)(E:IG),(∀y∈l,y.2=Kr->∃c,Cou=AW)->(forIn l E (λ(y:Str×NameKind)(b:List (Str×Addr))=>(if y.2==Kr then do let c<-cellOf p y.1;pure (ForInStep.yield ((y.1,c)::b))else Ek (Crb b):Sem (ForInStep (IG)))))=(Ek ((((l.filter λy=>y.2==.free).map (·.1)).reverse.map λx=>(x,(p.cells.lookup x).getD 0))++E):Sem (IG)):=by
  intro l;induction l with
  |nil=>intro E _;rfl
  |cons y l d=>
   intro E U;rw[List.forIn_cons];rw[Td,Q,y.2=Kr]
   ·rw[Tc,c,L,U y RO Q];let W:(y.2==Biq)=Aa:=DY Q
    rw[VE,N,cellOf p y.1,Ek c,cellOf,L]
    rw[W,N,JO,pure_bind,pure_bind];change forIn l ((y.1,c)::E) _=_;rw[d ((y.1,c)::E) λz B=>U z (Oo B),wT,Av W];simp[L]
   ·let W:(y.2==Biq)=Af:=Arl Q;rw[W];rw[VC,um,tO,pure_bind];rw[d E λz B=>U z (Oo B),wT,AF [Cth,W]]
 unfold closureFor;let:=C S.names [] h;rw[Tt,ud];first|(rw[<-this];rfl)|(rw[Vm,bind_pure];rw[TQ])
def arc(h:sbl l=Aa)(p:PySem.Env):Bqh l p=Bww:=by rw[Tu,sbl];rw[Vz,si,scI,h];obtain⟨_,_,_,_,L,I⟩:=h;rw[defaultsOf_eq,L,I];rfl
def scW:BU Awt|some .free=>true|_=>false
def lP(h:scW o=Aa):o=Qa:=by grind[scW]
def siC(L:yD):Bh:=(match L.scope.kind with|.function=>true|_=>false)&&(!L.scope.isCoroutine&&(!L.scope.isGenerator&&((L.scope.names.all λy=>!yJ (some y.2)&&(!scW (some y.2)||L.sG.contains y.1))&&(saA (L.scope.names.lookup ("k":Str))&&((L.sG.all λy=>scW (L.scope.names.lookup y)&&L.uo.contains y)&&((L.uo.all λy=>scW (L.scope.names.lookup y))&&(sbl L.params&&(decide (L.params.args.map (·.arg)=[("k":Str)])&&(scS (("k":Str)::L.uo)&&decide (L.uo.length<90))))))))))
def ard(h:siC L=Aa):scP L FV/\GW ((FV:BG)::OW)/\Aqc<90:=by
 simp only[siC,si,tZ,xT,vc]at h;obtain⟨G,H,F,D,A,I,T,Z,a,bC,b⟩:=h;rw[Tp,⟨?_,H,F,GX y Q,fX A,AV y Q,λy Q=>Aj (lP (I y Q).1) Ag,λy Q=>lP (T y Q),EA M X c j u⟩,kK bC,Ag];·grind
 ·let:=(D y Q).1;rw[Tt,e];rw[Ve]
 ·rcases(D _ (u7 Q)).2 with z|z;·cases z
  ·grind
 ·let:=aeG (fd:=PySem.W.kla_fn Bbk Ng _ Amh QK M X (RU) j) (us:=[u]) Z Ab Ag Ag;rw[this,(Cm a)];rfl
def sel:Eh->tM|.int i _=>AK i|.str x _=>Bw x|_=>AK 0
def are{K:PySem.W.Frag}(X:K.In h)(b:Agn d=Ai)(G:Aea=DN Bti)(z:Cdk=Ad)(F:o.slots=#[])(j:IC=Arn R)(Z:R.toList.all (E_ (xu (sel Bft) Bft))=Aa)(f:R.toList.map (·.hash)=R.toList.map [E_,seo w (sel Bft)]):h.MapOf Aoq d [HN,Avj R k]:=by
 show[DB,o,_,_,X _ _ b,Am G z F,j,AV e Y,Arv];let Y:=Array.mem_toList_iff.mpr Y;rw[tZ]at Z;show HS _ (Z e Y);rw[Tc,i,H,sas Y];let:(R.toList.map (·.hash))[i]?=(R.toList.map [E_,seo w (sel Bft)])[i]?:=Aq
 rw[tD,tD,H]at this;show GF this
def skA(K:PySem.W.Frag)(O:EV Fx BG)(u:FuncData)(N:Dl)(r:saC)(a C:Addr):Bh:=HL QS Be (sbr K a C) (!(LZ==C)&&(O.contains (C,(r.d Od N).qual)&&(scS (r.d Od N).sG&&(sbl r.ps&&(r.sc.names.all λy=>! scW (Ae y.2)||yJ (u.scope.names.lookup y.1))))))
end sj
section
open PySem PySem.Spec PyProof.Rows L2
namespace sj
def slV:Ak:=[42,47,54,61,66,73,80,259,266,273,280,285,292,297,304,309,314,321,328,335,342,349,356,363,370,377,382,387,394,401,408,415,422,429,436,443,450,457,464,555,562,569,576,583,590,597,604,611,618,624,631,638,643,650,655,660,665,672,679,684,689,694,699,707,714,719,726,733,754,761,768,782,789,796,803,810,818,825,832,839,846,851,858,865,872,879,887,894,901,911,918,925,932,939,946,953,958,963,984,991,1005,1012,1019,1026,1033,1040,1047,1054,1061,1068,FL,1082,1089,1098,1105]
def skB:Ak:=[31,481,502,523,544,771,994]
def sgc:Eg String:=["with_numbers","count_word","find_name","is_pin","is_fixed","has_bar_to","share_piece","common_factor","is_letter","is_length","is_place","numbers_fit","check_line","check_linkage","renamed","kept_numbers","cut_off","root_below","product","enclosed","enclosed_roots","sign_of_whole","lifted","first_half","second_half","under_last_root","plus","times_whole","minus","times","square_of","with_root","sign_of","units_between","sign_beyond","counted_units","is_rounded_away","rounded_bits","double_bits","product_of_factors","brought_to","way_between","with_spot","with_pin","with_crank","with_rider","meeting","with_touching","with_meeting","with_dyad","with_line","figures_of","sides_of","check_place","told_sides","closed_figure","point_bits","shifted_line","turned_line","enlarged_line","shifted","turned","enlarged","is_factor","check_points","new_names","with_copier","with_inversor","ahead","at_digit","skip","scan_digits","scan_unsigned","scan_number","scan_fraction","scan_name","read_word","read_new_name","read_point","read_length","read_fraction","read_place","read_pin","read_crank","read_dyad","read_rider","may_follow","read_line","read_linkage","tracer_linkage","straight_linkage","round_linkage","lowest","circle_numbers","name_text","fraction_text","words_of_line","write_linkage","held","keep","answer_take","answer_print","answer_copier","answer_inversor","answer_shift","answer_quarter","answer_scale","answer_rename","answer_cut","answer_straight","answer_round","answer_figures","answer_point","answer_call",Cuq]
def siD:EV Aw tL:=[IU,IU,IU,IU,IU,Kb,Kb,IU,O_,O_,O_,O_,IU,O_,Ma 4,IU,IU,O_,Kb,Kb,IU,O_,IU,O_,O_,IU,IU,IU,IU,Kb,IU,Kb,IU,Ma 4,Ma 4,Kb,Ma 6,Ma 4,Ma 4,IU,Kb,Kb,Kb,Kb,Ma 4,Ma 5,Ma 5,Kb,Kb,Kb,Ma 4,Kb,O_,IU,Kb,Kb,Ma 6,Kb,O_,IU,Kb,O_,IU,IU,Kb,Kb,Ma 8,Ma 6,(1,Aao),(1,Aao),Ayl,Ayl,(1,Aao),(1,Aao),(1,Aao),(1,Aao),(1,Aao),Ayl,(3,[(0,5),(2,102)]),(1,Aao),(1,Aao),Ayl,Ayl,Ayl,Ayl,Ayl,IU,Ayl,O_,Ma 4,Kb,Ma 4,IU,Ma 4,O_,O_,IU,O_,(1,[(0,6)]),Aby (0,6),Aby (0,6),Aby (0,6),Aby (0,6),Aby (0,6),Aby (0,6),Aby (0,6),Aby (0,6),Aby (0,6),Aby (0,6),Aby (0,6),Aby (0,6),Aby (0,6),Aby (0,6),(3,[(0,6)]),O_]
def sls:QE [Eg,String]:=[[Lq,Cun],[DG,Ccz,Lq],[DG,Aru,FV,Lq],[DG,FV],[DG,FV,"end"],[DG,FV,"end"],[DG,"p","q"],["n","d","rest"],[Bjw],[Acv],[Acv],[Lq,Acv],[DG,FV],[DG,Lq],[DG,"i",Bjw,Acv,Aru,"holder",Lq],[DG,"i","kept",FV,Lq,"end"],[DG,"i","kept","left",FV,Lq,"end"],[Acv,"root","nearer"],["x","root",Bdm,"low","high"],["x","roots",Bdm,"half","without","behind"],[Aqi,Bdm,"roots",Cwc,"under","low","high"],[Acv],["x","size"],["x"],["x"],["x",Aqi],["x","y","size","one","other"],[Acv,"x","one"],["x","y"],["x","y",Aqi,"a","b","c","d","without"],["x",Aqi],["x","y",Cib,"half"],["x",Aqi,"a","b","sign_of_a","sign_of_b","square_of_root_part"],["top",Bzm,Aqi,Bdm,"roots","above","below","least","most"],["top",Bzm,Aqi,"units"],["top",Bzm,Aqi,Bdm,"between","least","most","beyond_most"],["kept","rest","half","more","negative","mode"],["units","more","negative","mode","dropped","kept","rest","stored"],["top",Bzm,Aqi,"mode","sign","counted"],[QF,Chb,"product",FV,Avq],[QF,"spot",Chb,"missing"],[QF,"p","q",Chb,Cjj,"end"],[QF,"spot",Avq,"own"],[QF,"x","y"],[QF,"p",Cjn,Bkq,"a","b",Avq,"centre","unit","x","y"],[QF,"p","q","u","v","way",Cjj,Avq,"along","left","dx","dy","x","y"],[QF,"p","q","p_length","q_length",Aqi,"way",Cjj,"unit","gap","foot",Cwc,Avq,"x","y","middle"],[QF,"found","bit",Cwe],[QF,"found","bit",Cib,"middle","turned","x","y",Cwe],[QF,Lq,Bdm,"found","sign","bit"],[QF,Lq,Bkq,"choices",Cun],[DG,Bkq,"choices",Cur,Lq,Cwe,QF],[QF,FV,"bit"],["a","b"],[DG,"a","b",Cur,QF],[DG,Bkq,"sides",Cur,FV],[DG,"a","b","sides","i","mode",QF,"spot",Bzm,Acv],[Lq,"dx","dy"],[Lq],[Lq,Avq,Acv],[DG,"dx","dy",Lq],[DG,Lq],[DG,Avq,Lq],["n","d"],[DG,"o","p"],[DG,Bjw,Cib,"names",Acv,Aru],[DG,"o","p","n","d",Cjn,"other",Bjw,"names","first","far_length"],[DG,"o","p","a","b",Bjw,"names","first"],[Cdb],[Cdb],[Cdb,"byte"],[PB,"most",Bcs,Acv],[PB],[PB],[PB,Bcs,"n","d"],[PB,Bjw],[PB,Ccz,"sign"],[PB,DG,Bcs,Aru],[PB,DG,"may_be",Bcs,FV],[PB,Bcs,Cjn],[PB],[PB,DG,Bcs,"x","y",Lq],[PB,DG,Aru],[PB,DG,Aru,"p"],[PB,DG,Aru,"p","p_length","q","q_length"],[PB,DG,Aru,"p","q","u","v"],[DG,Ccz],[PB,DG,Bcs,Ccz,"read_behind_word",Lq],[Btj,PB,DG],["e","r","a","b","base"],["r","a","b"],["e","r","a","b"],["n","d",Avq],["e","r","a","b",FV,"d"],[Aru,Bjw],["fraction","n","d"],[DG,Lq,"points","head","point",Cjn,FV,"fraction",Acv],[DG,Btj,Lq,"sign"],[Cdb],[Cdb,DG],[SN,Btj],[SN,Agz,Btj],[SN,Agz,DG],[SN,Agz],[SN,Agz],[SN,Agz],[SN,Agz],[SN,Agz],[SN,Agz],[SN,Agz],[SN,Agz,Cib,"circle"],[SN,Agz,"sides"],[SN,Agz,Bdm],[SN,Acv,Agz,"answer","refusal"],["calls",SN,Fd,Bkq,Acv,Bcs,"answer"],[FV,DG],[FV],[FV,"p"],[FV],[FV,DG,"p"]]
def yb(f:Nat):Dl:=Bp (sls.getD f []) Crv
def slW:Dl:=["Line","Spot","Figure","Way","Meeting","Scanner","Bench"]
def xns:Dl:=["WrongNumber","TooLong","NotALinkage","NotClosed","NoSuchLine","NameTaken","TextFault","NoLinkageYet"]
def slX:EV String Bm:=[("MOST_LINES",24),("MOST_DYADS",3),("MOST_OF_PLACE",GV),("MOST_OF_LENGTH",GV),("MOST_DIVISOR",20),("LAST_LETTER",25),("MOST_OF_NAME",99),("NEAREST",0),("NOT_ABOVE",1),("NOT_BELOW",2),("UNIT_BITS",FL),("KEPT_BITS",53),("FRACTION_BITS",52),("SIGN_BIT",63),("FIRST_TRIAL_BITS",1200),("MOST_OF_CRANK_PLACE",99),("LAST_MODE",3),("MOST_OF_SHIFT",2000),("MOST_OF_FACTOR",99),("MINUS",45),("SLASH",47),("ZERO",48),("NINE",57),("LETTER_A",65),("LETTER_Z",90),("MOST_DIGITS_OF_NUMBER",3),("MOST_DIGITS_OF_NAME",2),("LEAST_DIVISOR",2),("NO_BYTE",256),("MOST_BYTES",2048),("BLANK",32),("LINE_END",10),("LETTER_D",3),("TAKE",0)]
def siE:Na FG:=slX.map (λp=>(Aps Ax,AZ BE))++([("LEFT_OR_RIGHT",(CN GO Afa)),("NOTHING",(CN GO Afa)),("WORDS",(BH [(Rh),(Mu),(IK),(PZ)])),("A",(CN GO GO)),("B",(CN Afa GO)),("C",(CN (Adg) GO)),("LETTERS",(Cw [65,66,67,68,69,70,71,72,73,74,75,76,77,78,79,80,81,82,83,84,85,86,87,88,89,90]))]:Na FG)
def sem:EV Aw (BG×Aw):=[(5,"ahead",68),(5,"at_digit",69),(5,"skip",70),(6,"held",98),(6,"keep",99)]
def siF:Ayn:=[(83,1),(84,1),(84,3),(85,1),(85,2)]
def T0:Tb:=⟨λf=>[Avo,sem.any (λp=>(BE).2==f),Ad,sgc[f]?.map Crv],λf=>Cdr,λc=>slW.getD c "",λc=>xns.getD c "","Refusal",λt=>(["READ_BEHIND_WORD","ANSWER","HOW_MANY_GIVEN"]:Dl).getD t "",siE,sem,λg=>Bo (g<GH) Ad siF[g-GH]?⟩
def sbs:Ak:=[3,2,4,27,28,30,31,41,46,53,60,65,72,79,93,94,96,97,113,NY,116,117,132,133,135,136,151,152,154,155,170,171,173,174,189,190,192,193,208,209,211,212,227,228,230,231,246,247,249,250,258,265,272,279,284,291,296,303,308,313,320,327,334,341,348,355,362,369,376,381,386,393,400,407,414,421,428,435,442,449,456,463,477,478,480,481,498,499,501,502,519,520,522,523,540,541,543,544,554,561,568,575,582,589,596,603,610,617,619,623,630,637,642,649,654,659,664,671,678,683,688,693,698,700,706,713,718,725,732,746,747,753,760,767,770,771,781,788,795,802,809,811,817,824,831,838,845,850,857,864,871,878,880,886,893,900,902,903,904,910,917,924,931,938,945,952,957,962,976,977,983,990,993,994,1004,1011,1018,1025,1032,1039,1046,1053,1060,1067,1074,1081,1088,1090,1091,1097,1104,42,47,54,61,66,73,80,259,266,273,280,285,292,297,304,309,314,321,328,335,342,349,356,363,370,377,382,387,394,401,408,415,422,429,436,443,450,457,464,555,562,569,576,583,590,597,604,611,618,624,631,638,643,650,655,660,665,672,679,684,689,694,699,707,714,719,726,733,754,761,768,782,789,796,803,810,818,825,832,839,846,851,858,865,872,879,887,894,901,911,918,925,932,939,946,953,958,963,984,991,1005,1012,1019,1026,1033,1040,1047,1054,1061,1068,FL,1082,1089,1098,1105]
noncomputable def K0(P:Params):Crr:=sbs.map λa=>(a,(Azk a).getD default)
def fdOf:NC Obj FuncData|⟨_,_,.func u,_⟩=>BW|_=>none
noncomputable def sbt(P:Params)(g:Nat):Jz yD:=match T0.sbk g with|some (f,j)=>Ati [Kp,JK BS RP,fdOf] λu=>[IP,(ya u)[j]?.bind yL,r,r.d Od (yb f)]|none=>none
noncomputable def N0(P:Params):Nm:=[Ds,K0 P,λc=>Aph,λf=>Bxo f,[],[(860,Cyy),(867,Cze),(874,Cyz)],sbt P]
noncomputable def yc(P:Params)(a:Nat):Bh:=match Azk a with|some o=>Cye|none=>false
def arK:(Att (Nq 0) (yc P))=CJ:=CY
def arL:(Att (Nq 34) (yc P))=CJ:=CY
def arM:(Att (Nq 68) (yc P))=CJ:=CY
def arN:(Att (Nq 102) (yc P))=CJ:=CY
def arO:(Att (Nq 136) (yc P))=CJ:=CY
def arP:(Att (Nq 170) (yc P))=CJ:=CY
def arQ:(Att (Nq 204) (yc P))=CJ:=CY
def arR:(Att (Nq 238) (yc P))=CJ:=CY
def arS:(Att (Nq 272) (yc P))=CJ:=CY
def arT(P:Params):sbs.all (yc P)=Aa:=by
 let h:sbs=Nq 0++(Nq 34++(Nq 68++(Nq 102++(Nq 136++(Nq 170++(Nq 204++(Nq 238++(Nq 272)))))))):=DC
 rw[h];simp only[sh7,Fk arK,Fk arL,Fk arM,Fk arN,Fk arO,Fk arP,Fk arQ,Fk arR,Fk arS,Bool.and_true]
def arU{P:Params}{a:Nat}(h:a∈sbs):∃o,Azk a=Ai/\Cye=Aa:=by let:=Anc (arT P) a h;rw[TC,yc,this];cases e:Azk a with|none=>rw[Tt,e];rw[Ve]|some o=>rw[Tt,e];rw[Vu,o,this]
def arV{P:Params}{h:Heap}(Y:∀b o,Azk b=Ai->Js=Ai):(BS).In h:=by
 let e:sbs.map (Cxw).get?=Qz BS p Bqk:=by unfold K0;rw[sO];apply sic;intro a M;rw[Te,o,q,_,Dej];change Azk a=As ((Azk a).getD default);rw[q];rfl
 let W:(BS).In (Cxw):=PySem.W.Frag.in_of (as:=sbs) (by unfold K0;rw[sO];show Om (List.map_id' _)) e;showλa o q=>Y _ _ (W a o q)
noncomputable def skC(P:Params)(f:Nat):Bh:=Cys f Cdr (RT==v&&sbo T0 BS RP f (yb f) I T)
def arW:Ajo (Kk 0)=CJ:=CY
def arX:Ajo (Kk 10)=CJ:=CY
def arY:Ajo (Kk 20)=CJ:=CY
def arZ:Ajo (Kk 30)=CJ:=CY
def ar_:Ajo (Kk 40)=CJ:=CY
def ar0:Ajo (Kk 50)=CJ:=CY
def ar1:Ajo (Kk 60)=CJ:=CY
def ar2:Ajo (Kk 70)=CJ:=CY
def ar3:Ajo (Kk 80)=CJ:=CY
def ar4:Ajo (Kk 90)=CJ:=CY
def ar5:Ajo (Kk Cc)=CJ:=CY
def ar6:Ajo (List.range' 110 5)=CJ:=CY
def ar7:Iu [Bkl,GH,λf=>Cys f Cdr (RT==v&&sbo T0 BS RP f (yb f) I T)]=CJ:=by
 funext P;let h:List.range GH=Kk 0++(Kk 10++(Kk 20++(Kk 30++(Kk 40++(Kk 50++(Kk 60++(Kk 70++(Kk 80++(Kk 90++(Kk Cc++(List.range' 110 5))))))))))):=DC
 let g:Gv [Pp,GH] (skC P)=Aa:=by rw[h];simp only[sh7,Fk arW,Fk arX,Fk arY,Fk arZ,Fk ar_,Fk ar0,Fk ar1,Fk ar2,Fk ar3,Fk ar4,Fk ar5,Fk ar6,Bool.and_true]
 show g
end sj
end
section
open PySem PySem.Spec PyProof.Rows L2
namespace sj
def slY:Ak:=[28,478,499,520,541,747,977]
def sen:Ak:=[117,136,155,174,193,212,231,250]
def siG:Ak:=[NY,133,152,171,190,209,228,247]
def sgd(C:Addr):Al:=C∈sen
open PySem.W in def skD(K:Frag)(C:Addr):Bh:=plainGet K C Bqf&&(hasDictIn K C&&(plainOver K C&&AQ [Avi,K,Bov] Cdx))
open PySem.W in def skE(K:Frag)(C f:Addr):Bh:=makesIn K C&&([HL,Avi K Aco,Ln f,isFn K Afd,keepIn K Mf])
open PySem.W in def skF(K:Frag)(C:Addr)(m:Str)(f:Addr):Bh:=[HL,Avi K m,Ln f,isFn K Afd,keepIn K Afd]
def ar8:Iu [Bkl,7,λc=>[HL,Bou LZ (T0.cn c),Ln (Aph),skD BS (Aph),(Gv Agw (λf=>AQ [Crd,(AC (Aph)),f] S_)&&(skE BS (Aph) (Ckq 0)&&wn BS (Ckq 0) (NL+1) (λS b=>saE S (Azo) b)))]]=CJ:=CY
def ar9:Iu (sem.all λp=>skF BS (skB.getD Ax 0) (BE).1 (Bxo (BE).2))=CJ:=CY
def asa:Iu (see.all λx=>AQ [Bou,LZ,x] S_)=CJ:=CY
open PySem.W in theorem slZ:Iu [Bkl,8,λj=>[Aml,nsIn BS LZ (T0.xn j),Ln (Bjt 0),[Aml,findIn BS (AC (Bjt 0)) Aco,Ln (siG.getD j 0),[HL,typeIn BS (AC (siG.getD j 0)),Blu,keepIn BS (AC (Bjt 0)),wn BS (siG.getD j 0) (uY j+1) (sej T0.rf j)]]]]=CJ:=CY
def siH(K:PySem.W.Frag)(C:Addr):Bh:=match Cgu C with|some O=>sax O.mro|none=>false
open PySem.W in theorem sl_:Iu (sen.all λC=>[HL,Avi BS Bov,Cdx,siH BS C,([HL,Avi BS Fd,S_,hasDictIn BS C,([AQ,Avi BS Cfn,Bjy Ccl]&&AQ [Avi,BS,Crj] S_)])])=CJ:=CY
open PySem.W in theorem sl0:Iu [Aml,nsIn BS LZ T0.rf,Ln 97,[HL,specialIn BS (AC 97) Cfn,Bjy Czl,readsIn BS 97 (Bqd),(keepIn BS (AC 94)&&(wn BS 94 2 sei&&([Aml,findIn BS (AC 97) Aco,Ln 94,AQ (typeIn BS (AC 94)) Blu&&keepIn BS (AC 97)])))]]=CJ:=CY
open PySem.W in theorem sl1:Iu (findCls BS (AC 97) (Bqd) Aco)=Ej [As,.val (AC 94)]:=CY
def asb:Iu [Aog,BS,p,match(BE).cls with|.type "list"=>false|_=>true]=CJ:=by funext P;unfold K0;rw[seE];apply tZ.mpr;intro a M;rw[Te,o,q,w,Dej];rw[UC,Function.comp,q];show w
end sj
end
section
open PySem PySem.Spec PyProof.Rows L2
namespace sj
def yd(K:PySem.W.Frag)(a:Addr)(p:BU Obj):Bh:=Cxx a (p o)
def asc:Iu [Bkl,GH,λf=>match T0.nm f with|some x=>[AQ,Bou LZ x,Ln RP]|none=>true]=CJ:=CY
def asd:Iu (siE.all λp=>match Bou LZ Ax with|some (some u)=>siA BS BE u|_=>false)=CJ:=CY
def aeX:Iu (sen.all λC=>yd BS C λo=>saF C o&&IW (sga o) (AC 97))=CJ:=CY
def ase:Iu (yd BS 97 (saF 97))=CJ:=CY
def sl2:Bmn:=DL Oh [] Af Af []
def asf:Iu [Bkl,5,λj=>match sbt P (GH+j),Cch (GH+j)with|some L,some I=>siC L&&(match I.body with|.cons (.ret l) .nil=>RT==Aqc+1&&(I.ns==RT&&KH T0 [] l [AO,FV::OW,QK,Af,sl2] Amh)|_=>false)|_,_=>false]=CJ:=CY
def skG:EV Fx Fx:=[(864,860),(871,867),(871,867),(878,874),(878,874)]
def scZ:EV Fx BG:=[(860,Cyy),(867,Cze),(874,Cyz)]
def asg:Iu [Bkl,5,λj=>match T0.sbk (GH+j)with|some (f,i)=>(match Kp [JK,BS,RP] fdOf with|some u=>(match(ya u)[i]?.bind yL with|some r=>skA BS scZ u (yb f) r (skG.getD j (0,0)).1 (skG.getD j (0,0)).2|none=>false)|none=>false)|none=>false]=CJ:=CY
def ash:Iu ([AQ,Bou LZ "__builtins__",Ln 4]&&yd BS 4 λo=>Aml Aea [DN,"module"] [Aml,Cdk,Ae Bpr,match o.data with|.plain=>true|_=>false])=CJ:=CY
def skH(o:Obj):Bya:=match o.data with|.dict R _=>R|_=>#[]
noncomputable def wo(P:Params)(a:Addr):Bya:=match JK BS a with|some o=>skH o|none=>#[]
def skI:Ez:=[880,1090,1091]
def aeY:Iu [Bkl,3,λt=>[HL,Bou LZ (T0.tn t),Ln (Bju 0),yd BS (Bju 0) (λo=>HL Aea [DN,Bti] o.dict.isNone (o.slots.isEmpty&&(match o.data with|.dict _ _=>true|_=>false))),(wo P (Bju 0)).toList.all (E_ (xu (sel Bft) Bft))]]=CJ:=CY
def asi:(λw:World=>(List.range 3).map λt=>(wo w.params (skI.getD t 0)).toList.map (·.hash))=λw=>[Qz,Pp 3,t,(wo Bia (Bju 0)).toList.map [E_,seo w (sel Bft)]]:=CY
def asj:Iu [Qz,([HX,FN,GB,IL]:Qb),s,Avj (wo P 880) (Bw (KE))]=Ej [Qz,[82,83,84,85],f,Ex RP]:=CY
def asl:Iu [Bro,13,λ(i:Nat)=>Avj (wo P 1090) (AK MC)]=Ej [Qz,Pp 13,i,Ex (Bxo (Cc+i))]:=CY
def asm:Iu [Aog,([(1,0),(2,7),(3,5),(4,2),(5,0),(6,1),(7,3),(8,1),(9,3),(10,4),(11,2),(12,5)]:Ann),p,match Avj (wo P 1091) (AK Ax)with|some (.int j _)=>AQ j BE|_=>false]=CJ:=CY
end sj
end
section
open PySem PySem.Spec PyProof.Rows L2
namespace sj
def dP{n:Nat}{p:BU Aw}(h:Gv [Pp,n] p=Aa){i:Nat}(H:i<n):p i=Aa:=Anc h i (Bsn H)
def asn:siD.length=GH:=K_
def aso:sgc.length=GH:=K_
def qr{J d:Bq}{f g:J->d}{l:LJ}(h:Ci f=Ci g){x:J}(O:x∈l):f x=g x:=by
 rw[Tc,i,H,sas O];let:(Ci f)[i]?=(Ci g)[i]?:=Asc h
 rw[tD,tD,H]at this;show GF this
section
variable{w:World}{mg:Str->Option Value}{base:Heap}
def asp{P:Params}(f v:Nat)(T:tL)(e:T0.sig f=Ep v T):∃I,Cch f=Bha/\RT=v/\sbo T0 BS RP f (yb f) I T=Aa:=by
 let e:Cdr=Ep v T:=e;let R:f<GH:=by rw[<-asn];show(Dj e).1
 let:=dP (Fk ar7) R;rw[Tt,e];cases h:Cch f with|none=>rw[Tt,h];rw[Ve]|some I=>rw[Tt,h];rw[WZ];rw[Tt,si];rw[Ts,I,Ab,BO Ccy,this.2]
def aeZ(X:Aym)(G:Asy)(f:Nat)(x:Str)(e:T0.nm f=Bi):mg x=Ex RP:=by
 let R:f<GH:=by
  let e:([Avo,sem.any (λp=>(BE).2==f),Ad,sgc[f]?.map Crv])=Bi:=e;rw[Tz,e];·rw[Tr]
  ·cases h:sgc[f]? with|none=>rw[TV,h];rw[Tr]|some y=>rw[<-aso];show Abh
 let:=dP (QZ asc) R;rw[Tt,e];show sbu X G (Cm this)
def iq{P:Params}{c:Nat}(h:c<7):Bou LZ (T0.cn c)=Ln (Aph)/\v_ BS (Aph)/\(∀f∈Auv,xw BS (Aph) f)/\Mk BS (Aph) (Ckq 0)/\wn BS (Ckq 0) (NL+1) (λS b=>saE S (Azo) b)=Aa:=by let:=dP (Fk ar8) h;simp only[si,tZ,skD,skE]at this;obtain⟨G,⟨X,A,H,p⟩,F,⟨r,v,E,d⟩,L⟩:=this;rw[TU,Cm G,AO X A H [Cm,p],λf R=>(Cm (F f R):Crd (AC (Aph)) f=S_),AO r [Cm,v] E d,L]
def asq{P:Params}(c:Nat)(m:Str)(f:Nat)(h:(c,m,f)∈sem):saN BS (Aph) m RP:=by let:=Anc (Fk ar9) _ h;rw[Vz,si,skF,this];rw[Tp,Cm Ccy,this.2.1,this.2.2]
def asr(X:Aym)(G:Asy)(p:BG×FG)(Y:p∈siE):∃v u,mg Ax=BW/\Ckp v/\∀g B H,Aqt ((Bmv).w g) BE v:=by
 let:=Anc (QZ asd) p Y;rw[Tz,this];·rw[UE,u,e];rw[Te,v,r,f,ara (N:=Bmv) this];rw[TU,v,u,sbu X G e,r,f]
 ·rw[Ve]
def ae_{P:Params}{C Y:Addr}(H:yd BS C (saF C)=Aa)(G:Crd Mf Aco=Ln Y)(z:Byg BS (AC Y)=Blu)(F:Bxh BS Lh=Aa):scM BS C Y:=by
 rw[TC,yd,H];rw[Tz,H];·rw[UE,o,b];obtain⟨S,q,N,j,B,r,s,n,c,g,f,R,k,U,i,A,e,T,_⟩:=aeQ H;rw[Uo];rw[Ts,⟨S,q,N,j,B,r,s,n,c,g,f,R,k,U,i,A,b,T⟩,G,z,F]
 ·cases H
def ae0{j:Nat}(h:j<8):Bjt 0∈sen:=by match j,h with|0,_=>decide|1,_=>decide|2,_=>decide|3,_=>decide|4,_=>decide|5,_=>decide|6,_=>decide|7,_=>decide
theorem z_x(X:Aym)(G:Asy)(j:Nat)(H:j<8):∃C Y,mg (T0.xn j)=Aug/\scM Aha C Y/\wn Aha Y (uY j+1) (sej T0.rf j)=Aa/\sgd C:=by
 let:=dP (QZ slZ) H;rw[Vw,this];obtain⟨h,z,F,D,L⟩:=this;let Z:=Anc (QZ aeX) _ (ae0 H);let f:yd Aha (Bjt 0) (saF (Bjt 0))=Aa:=by
  rw[Wn,yd,Z];rw[Tz,Z];·rw[UE,o,b];let Z:(saF (Bjt 0) o&&IW (sga o) (Kj 97))=Aa:=Z;rw[si]at Z;show Z.1
  ·cases Z
 show[Ds,_,_,sbu X G (Aoo),ae_ f (Cm z) (Cm F) D,L,ae0 H]
def ae1{K:PySem.W.Frag}{C:Addr}(h:siH K C=Aa):∃O,Cgu C=Ae O/\sax O.mro=Aa:=by
 rw[Tu,siH];rw[Tn];·rw[UE,O,e];rw[Tp,O,e,h]
 ·rw[Tf]
def ae2{P:Params}(C:Addr)(c:sgd C):sec BS C/\scO BS 97 C:=by
 let:=Anc (Fk sl_) C c;rw[Vw,this];obtain⟨G,z,F,D,L,I⟩:=this;let Z:=Anc (Fk aeX) C c;show⟨[AO,Cm G,ae1 z,Cm F,D],?_,ae1 z,Cm L,Cm I,D,Cm F⟩;rw[TC,yd,Z];rw[Tz,Z];·rw[UE,o,b];let Z:(saF C o&&IW (sga o) (Kj 97))=Aa:=Z;rw[si]at Z;obtain⟨S,q,N,j,B,r,s,n,a,g,f,R,k,U,i,A,e,T,l⟩:=aeQ Z.1;rw[Uo];show⟨S,q,N,j,B,r,s,n,a,g,f,R,k,U,i,A,_,b,Cb l Z.2⟩
 ·cases Z
def ass(X:Aym)(G:Asy):∃R M,mg T0.rf=Ex R/\sf1 Aha R Aco M/\wn Aha M 2 sei=Aa/\(∃f,scM Aha R f)/\∀C,sgd C->scO Aha R C:=by let:=QZ sl0;rw[Vw,this];obtain⟨H,z,F,D,L,I,T,Z⟩:=this;show[BF,97,94,sbu X G (Cm H),[AO,Cm z,F,QZ sl1,D],L,Aj 94 (ae_ (QZ ase) (Cm I) (Cm T) Z),λC c=>(ae2 C c).2]
def ast(X:Aym)(G:Asy)(x:Str)(O:x∈see):mg x=Ad:=PySem.W.mg_none_of X G (Cm (Anc (QZ asa) x O))
def asu{f:Nat}(h:uf Cc f=Aa):f=82\/f=83\/f=84\/f=85:=by rw[TM,Gp (82<=f/\f<=85)=Aa];let:=Aoo;omega
def asv{f:Nat}(h:uf 101 f=Aa):Cc<=f/\f<=112:=by rw[TM,Gp (Cc<=f/\f<=112)=Aa];show Aoo
def asw:[Pp,13].map (Aar siD[Cc+i]?)=[Qz,Pp 13,_,Ep 2 [(0,6)]]:=K_
def asx(f:Nat):(uf Cc f=Aa->T0.sig f=Ep 2 Aao)/\(uf 101 f=Aa->T0.sig f=Ep 2 [(0,6)]):=by
 rw[Th,FC h,FC h];·rcases asu h with rfl|rfl|rfl|rfl<;>rw[XH]
 ·rw[Vi,asv h];let:=qr asw (x:=f-Cc) (Bsn Ac);change Cdr=_;rw[<-this];congr 1;omega
end
end sj
end
section
open PySem PySem.Spec PyProof.Rows L2
namespace sj
section
variable{w:World}{mg:Str->Option Value}{base:Heap}
def asy{l:Program}{t:Nat}(I:t<3)(h:Heap)(X:Cab h):h.MapOf (ye l w) (Bju 0) [HN,Avj (wo Bia (Bju 0)) k]:=by
 let:=dP (QZ aeY) I;rw[Vw,this];obtain⟨_,G,z⟩:=this;let f:=qr (tm asi w) (Bsn I);rw[TC,yd,G];rw[Tz,G]
 ·rw[UE,o,b];rw[Vw,G];obtain⟨A,S,H,p⟩:=G;rw[VE,e,wo Bia (Bju 0),skH o,wo,b]
  rw[e]at z f|-;rw[Yt,m,D,O];cases x with|dict R B=>show are X b (Cm A) (siy.mp S) (Array.isEmpty_iff.mp H) Ab z f|_=>cases p
 ·cases G
def asz{P:Params}(g:Ez):saz ((N0 P).w g) 0 [HN,Avj (wo P 880) k]:=by
 intro y d e;let c:=Fk asj;let C:∀(s:Ak)(f:Nat),Avj (wo P 880) (Bw (KE))=Ex RP->∃k u v,(∀B H G,Rp ((N0 P).w g) B H (Cw s) G->G=kV k)/\Avj (wo P 880) k=BW/\Ckp v/\∀B H,Aqt ((N0 P).w g) (.fn f) v:=λs f h=>[BF,Bw (KE),_,AC RP,λB H G r=>r.1,h,Ab,Kv];cases y with
 |str s=>
  let e:([Col,s=HX,As (Core.D.fn 82),s=FN,Ahl 83,[Col,s=GB,Ahl 84,s=IL,Ahl 85,Ad]])=Ea:=e;injection c with W c;injection c with D c;injection c with M c;injection c with q c;rw[Tz,e];·rw[TF,A];subst A;rw[Tr];show C _ 82 W
  ·rw[Tz,e];·rw[TF,A];subst A;rw[Tr];show C _ 83 D
   ·rw[Tz,e];·rw[TF,A];subst A;rw[Tr];show C _ 84 M
    ·rw[Tz,e];·rw[TF,A];subst A;rw[Tr];show C _ 85 q
     ·rw[Tr]
 |_=>rw[Tr]
def asA{P:Params}(g:Ez):saz ((N0 P).w g) 1 [HN,Avj (wo P 1090) k]:=by
 intro y d e;cases y with
 |int i=>
  let e:(CH (0<=i/\i<=12) [As,Core.D.fn (Cc+JT)] Ad)=Ea:=e;rw[Tz,e];·rw[TF,h];rw[Tr];let:=qr (Fk asl) (x:=i.toNat) (Bsn Ac);let C:Ay JT=i:=sfI Bk;rw[Tt,C];show[BF,AK i,_,AC (Bxo (Cc+JT)),λB H G r=>r,this,Ab,Kv]
  ·rw[Tr]
 |_=>rw[Tr]
def ae3{i n:Int}:∀{l:Ann},l.lookup i=Ae n->DX i n l
|[],h=>SF
|p::l,h=>by
 rw[Tg,tX];rw[Um,(i==Ax)=Aa];·rw[Tg,e];let:BE=n:=Akx;rw[BO e,<-this];show Bax
 ·rw[uU _|>.mp e]at h;show Oo (ae3 h)
def asB{P:Params}(g:Ez):saz ((N0 P).w g) 2 [HN,Avj (wo P 1091) k]:=by
 intro y d e;cases y with
 |int i=>
  rw[VA,n,f,(show(Bp [JK,([(1,0),(2,7),(3,5),(4,2),(5,0),(6,1),(7,3),(8,1),(9,3),(10,4),(11,2),(12,5)]:Ann),i] Core.D.int)=Ea from e)];let:=Anc (Fk asm) _ (ae3 f);rw[WZ];rw[Tz,this];·rename_i j t C;rw[VM,j=n,Cm this];show[BF,AK i,_,EC,λB H G r=>r,C,Aku t,Kv]
  ·rw[Ve]
 |_=>rw[Tr]
def asC{l:Program}(X:Aym)(G:Asy)(t:Nat)(I:t<3):∃d f,mg (T0.tn t)=Ex d/\(∀h,Cab h->Brn (ye l w) f)/\∀g,saz ((Bmv).w g) t f:=by let:=dP (QZ aeY) I;rw[Vw,this];rw[TU,_,_,sbu X G (Cm Ccy),λh p=>asy I h p,FC g];match t,I with|0,_=>show asz g|1,_=>show asA g|2,_=>show asB g
def ae4{g f j:Nat}(h:T0.sbk g=Ep f j):GH<=g/\g<120:=by
 rw[TM,Cv (g<GH) Ad siF[g-GH]?=Ep f j];rw[Tn];·rw[Tf]
 ·let:=Abh;rw[Ti,e,siF.length=5];omega
def asD{P:Params}{g:Nat}{L:yD}(h:sbt P g=Aoz):GH<=g/\g<120:=by
 rw[Tu,sbt];rw[Tn];·rename_i f j e;show ae4 e
 ·rw[Tf]
def asE{P:Params}(g:Nat)(L:yD)(h:sbt P g=Aoz):scP L FV/\GW ((FV:BG)::OW)/\Aqc<90/\∃I l,Cch g=Bha/\RT=Aqc+1/\I.ns=RT/\Cdn=EJ (NV l)/\KH T0 [] l [AO,FV::OW,QK,Af,DL Oh [] Af Af []] Amh=Aa:=by
 rw[Vi,asD h];let:=dP (Fk asf) (i:=g-GH) Ac;rw[Uc,E,GH+(g-GH)=g]
 rw[VW,E,h];cases Y:Cch g with
 |none=>rw[Tt,Y];rw[Ve]
 |some I=>
  rw[Tt,Y];rw[WZ];rw[Tt,si];obtain⟨U,R⟩:=this;rw[Tz,R];·rw[UE,l,T];rw[Vw,R];rw[Te,X,S,H,ard U];show⟨X,S,H,I,l,Ab,BO R.1,BO R.2.1,T,R.2.2⟩
  ·rw[Ue]
def asF{o:Obj}{u:FuncData}(h:IC=Cbm):fdOf o=BW:=by rw[Yt,c,d,y];rw[TM,x=Cbm];subst h;rfl
def asG(X:Aym)(G:Asy){C:Addr}(p:4≠C):Cqj C:=by
 let:=QZ ash;rw[Tt,si];obtain⟨h,z⟩:=this;rw[TC,yd,z];rw[Tz,z]
 ·rw[UE,o,b];rw[Vw,z];obtain⟨A,S,H⟩:=z;show⟨4,o,sbu X G (Aoo),DC,DC,p,X _ _ b,Cm A,Cm S,?_⟩;rw[Tz,H];·assumption
  ·cases H
 ·cases z
def asH(X:Aym)(G:Asy)(f:Nat)(o:Obj)(u:FuncData)(g j:Nat)(s:Stmt)(r:saC)(b:JK Aha RP=Ai)(R:IC=Cbm)(O:T0.sbk g=Ep f j)(P:(ya u)[j]?=G_)(A:yL s=Ae r):∃q C a,sbt Bia g=As [Anx,(yb f)]/\Od++Cru++Bbk=(Anx (yb f)).qual/\(∀p,Bqh r.ps p=Bww)/\(∀d:Fx,Bjj r.sc (envOfC Od Kt d RP QS)=Ek ((Anx (yb f)).sG.map λx=>(x,Amq ((envOfC Od Kt d RP QS).cells.lookup x))))/\QS=Be/\Bxz DU a C/\LZ≠C/\Cqj C/\DX C (Anx (yb f)).qual (Bmv).tb/\(Anx (yb f)).sG.Nodup:=by
 rw[Tc,B,v,ae4 O];let:=dP (QZ asg) (i:=g-GH) Ac;rw[Uc,l,GH+(g-GH)=g]
 let W:Kp [JK,Aha,RP] fdOf=BW:=Cb b (asF R)
 let N:(ya u)[j]?.bind yL=Ae r:=by rw[P];show A
 rw[VW,l,O];rw[WZ];rw[Tt,W];rw[WZ];rw[Tt,N];rw[WZ];rw[TC,skA,this];simp only[si,xT,tZ,vc]at this;obtain⟨H,h,F,D,L,I,T⟩:=this;show⟨Od,_,_,?_,Ab,λp=>arc I p,λd=>arb [GX,y,Q],Cm H,aeT X h,siB.mp F,asG X G ?_,Amo D,kK L⟩;·unfold sbt;rw[O];rw[TD];rw[W,Option.bind_some,N];rfl
 ·rcases T y Q with z|z;·rw[e]at z;cases z
  ·show k8 (ik z)
 ·let:g-GH<5:=AE
  generalize g-GH=i at this;match i,this with|0,_=>decide|1,_=>decide|2,_=>decide|3,_=>decide|4,_=>decide
def nH(X:Aym)(G:Asy)(S:base.NoSeer):sbq Hd.pw (Bmv) T0 sgd mg DU Core.zb yb w where
 tree:=rfl
 seer:=S
 sbp:=λf v T e=>asp f v T e
 nm:=HK f x (aeZ X G f x e)
 cn:=λc H=>sbu X G (iq H).1
 saD:=λc H=>HV (iq H).2.2.2.1 (iq H).2.2.2.2
 cls:=[Aj,λc H=>(iq H).2.1,λc f H R=>(iq H).2.2.1 f R]
 x8:=Ir c m f (asq c m f h)
 tab:=λt I=>asC X G t I
 con:=Kg (asr X G p Y)
 blt:=λx O=>ast X G x O
 sbm:=λj D=>z_x X G j D
 ref:=ass X G
 xc:=λC B=>(ae2 C B).1
 uf:=asx
 lam:=λg L h=>asE g L h
 sky:=λf o u g j s r a b c d e=>asH X G f o u g j s r a b c d e
 nT:=by intro q Z r A e;let Z:q∈scZ:=Z;let A:r∈scZ:=A;simp only[scZ,yQ,List.mem_nil_iff,or_false]at Z A;rcases Z with rfl|rfl|rfl<;>rcases A with rfl|rfl|rfl<;>first|rfl|(rw[T',e,Dc])
end
end sj
end
section
open PySem PySem.Spec PyProof.Rows L2
namespace sj
def ae5{P:Params}{h:Heap}:∀{E:Ao}{J:BA},PySem.W.WellAll P h J (E.map Cqd)->sJ (Bpn) J|[],J,x=>by cases x;show BY|n::E,J,x=>by cases x with|cons y t=>cases y;show Jo SE (ae5 t)
def ae6{R:PySem.W.WRecords}{r:BG->Mx}{h:Heap}:∀{E:Ao}{J:BA},sJ (Bpn) J->PySem.W.ReadsAllW R r h J (E.map Cqd) []|[],J,x=>by cases x;show BY|n::E,J,x=>by cases x with|cons y t=>obtain⟨B,rfl⟩:=y;show .cons (as:=[]) (bs:=[]) (GU n B) (ae6 t)
def sbv(b:Addr):Bh:=b==860||(b==867||b==874)
def asI:Iu [Qz,[860,867,874],a,Azk a]=Ej [Qz,[860,867,874],_,Bug BM #[]]:=CY
def asJ:Iu [Qz,[860,867,874],a,Bvj (JK BS a)]=Ej [Aa,Aa,Aa]:=CY
def asK{b:Addr}(h:sbv b=Aa):b=860\/b=867\/b=874:=by rw[Tu,sbv];simpa using h
def f_{P:Params}{b:Addr}(h:sbv b=Aa):Azk b=Bug BM #[]:=by let:=Fk asI;rw[YX];rw[YY];rw[YZ];rw[Yw,h]<;>assumption
def asL{P:Params}{b:Addr}(h:sbv b=Aa):JK BS b=Ad:=by let:=Fk asJ;rw[YX];rw[YY];rw[YZ];rw[Yw,h]<;>(apply siy.mp;assumption)
def hS(L:Addr)(lo:Obj)(E:Ao):Hp:=λb=>[CH,b=L,Cfd lo [DK,E.map MY],[CH,sbv b=Aa,Acx #[],Ad]]
def f6{L b:Addr}{lo:Obj}{E:Ao}{u:HO}(h:hS L lo E b=BW):(b=L/\u=.ao lo [DK,E.map MY])\/(EW L/\sbv b=Aa/\u=.uO #[]):=by
 rw[Tu,hS];rw[Tn];·rw[TF,e];show FJ e [Om,Akx]
 ·rw[Tn];·rw[UE,e,t];rw[TN,Am e t [Om,Akx]]
  ·rw[Tf]
def asM{P:Params}{a:Addr}{o:Obj}(h:JK BS a=Ai)(L:Aea=DN Adj):Agm:=by
 let:=Anc (Fk asb) (a,o) (by
  let C:∀{l:PySem.W.Frag},l.lookup a=Ai->DX a o l:=by
   intro l;induction l with
   |nil=>rw[UH];rw[Tf]
   |cons p l d=>
    rw[UH];rw[Tg,tX];rw[Um,(a==Ax)=Aa];·rw[Tg,e];let:BE=o:=Akx;rw[BO e,<-this];show Bax
    ·rw[uU _|>.mp e]at h;show Oo (d h)
  show C h);rw[WZ];rw[Tt,L];rw[Ve]
def asN:∃m,Afe:=by rw[Tx,C,RG c (∃m,Eu (k<=c->2^k+1<m)),c,[Aj,2^c*4,λk Z=>by let G:2^k<=2^c:=zh Dc Z;let F:0<2^c:=Nat.pow_pos Dc;omega]];show C _
def asO:PySem.W.WalkOS Hd.q0 Hd.wJ (Auy True) Hd.YP Hd.scY Hd.d0 [] λf J=>PySem.call f J:=by
 intro w wr H mg mb G Y fa o X cd P1 dV kV ho hd Q1 hD h hg P0 N1 as X0 T1 V1 H0 U1;rw[Te,a,e1,N,PySem.W.os_pre_some X0];rw[Tc,e3,C0,PySem.W.Codec.encAll_of_decAll Hd.scY.args P0 a e1];subst e3;let C1:=C0;let KX:Cab Arw:=arV Y;obtain⟨E,u⟩:=a;let H0:PySem.W.WellAll Bia Arw N1 [PY (Bp (show Ao from E) Cqd)]:=H0;change Ao at E;let C0:((PySem.W.Codec.inLen 0 16000 E&&E.all (PySem.W.Codec.inInt (Int.negSucc 9223372036854775806) (Int.ofNat 9223372036854775807)))&&Aa)=Aa:=C0;let N:Dbg E=Aa:=N;rw[Vo,C0];let U:Cjd<=16000:=(PySem.W.Codec.inNat_iff.mp C0.1.1).2;cases H0 with
 |cons y t=>
  cases t;cases y with
  |@list la J _ M O=>
   let rv:=ae5 O;let Y0:Cu Cjd:=GN U Cmz;let sv:vi Hd.pw w (hS la _ E) Arw:=Rx u (by
    rw[Xn,f6 e,rfl,_,I,rfl];·show Ds M (by rw[sr];show Y0) J 0 rv M
    ·show Y _ _ (f_ I))
   generalize O0:(Bzq Adj [HU,J]:Obj)=lo at M sv;let s:lo.cls=DN Adj:=by rw[<-O0]
   let ld:∀{es:Bya}{B:Nat},lo.data≠Arn es:=by rw[<-O0];showλ{_ _}e=>Bzd
   let X1:∀{b:Addr}{A:Obj},Bpq b=Ae A->A.cls≠DN Adj->NQ A≠Qy #[]->hS la lo E b=Ad:=λ{b A}e W c2=>by
    cases q:hS la lo E b with
    |none=>rfl
    |some u=>
     rw[Xn,f6 q,_,_,I,_];·rw[TV,M];rw[Tr];rw[T',s,W]
     ·rw[TV,Y _ _ (f_ I)];rw[Tr];rw[T',Ab,c2]
   rw[TW,E0,∀{b:Addr}{A:Obj},Bpq b=Ae A->hS la lo E b=Ad->QN (yf Arw (Ats E)) b=Ae A,e,n,afh e n];let F1:∀{b:Addr}{A:Obj}{es:Bya}{B:Nat},Bpq b=Ae A->NQ A=Arn es->hS la lo E b=Ad:=λ{b A es B}e d=>by
    cases q:hS la lo E b with
    |none=>rfl
    |some u=>
     rw[Xn,f6 q,_,_,I,_];·rw[TV,M];rw[Tr];rw[T',d,ld]
     ·rw[TV,Y _ _ (f_ I)];rw[Tr];cases d
   let l0:∀{b:Addr}{m:BG->EU},H.heap.Ns b m->(yf Arw (Ats E)).Ns b m:=λ{b m}⟨o,es,B,e,d,r⟩=>Ds o es B (E0 e (F1 e d)) d r;let I0:Cab (yf Arw (Ats E)):=Rx A (E0 (KX b A e) (by
    cases q:hS la lo E b with
    |none=>rfl
    |some u=>
     rw[Xn,f6 q,_,_,I,_];·let:=KX _ _ e;rw[Tt,M];rw[Ve];show(asM e s).elim
     ·rw[TV,asL I];rw[Tr]));let D0:=G.T.seer (CY);let M1:(yf Arw (Ats E)).NoSeer:=[AO,let⟨Q,a,b⟩:=D0.statics;Am Q (l0 a) b,let⟨Q,a,b⟩:=D0.mods;Am Q (l0 a) b,let⟨Q,a,b⟩:=D0.imp;Am Q (l0 a) b,let⟨m',bm,A,a,b,c,d,e⟩:=D0.main;[DB,m',bm,A,l0 a,b,E0 c (by
    cases q:hS la lo E bm with
    |none=>rfl
    |some u=>
     rw[Xn,f6 q,_,_,I,_];·rw[M]at c;cases c;rw[s]at d;rw[Ug,Value.type.inj d,Dc]
     ·rw[Y _ _ (f_ I)]at c;cases c;cases d),d,e]];let Z:=nH I0 (l0 G.T.g) M1;obtain⟨m,hm⟩:=asN;rw[Tk,fd,ps,F,Bd,x,(aeP (m:=m) Z 22).1 NY 1 [] FS];let U0:fa=Bxo NY:=by
    let h1:=aeZ KX G.T.g NY Cuq (CY);let h2:Hd.d0.name=Cuq:=CY
    rw[h2,h1]at h;rw[WD];rw[WD];show h.symm
   subst U0;let W0:=G.T.nolimit;let hM:Mod Aha mg (yf Arw (Ats E)):=[AO,I0,l0 G.T.g,Am mb (l0 G.T.b) G.T.builtins,let⟨Q,h1,h2⟩:=W0;Am Q (l0 h1) h2];let e0:v5 Hd.pw w Aha mg (yf Arw (Ats E)) callerA [] H (Ats E):=[DB,Ab,hM,MF (afi e),seH (afg _ _),vH,KW hb [Qi,(show b∈([]:Ez)from hb)],sv,.of_eq hg];let sp:wh (Bmv) (Core.y9 Core.zb m 22) NY 1 [] [AC la] (Ats E) (λv H'=>∃p,v=SO/\H' p=Aia [JX,Bop E]) [Kh,_,Agm]:=by
    show⟨Ab,[],[.uh E],[],[],EJ ⟨la,lo,Ab,?_,xU,xU⟩,[DL,Ab,λi c o h1=>(by simp at h1),λi j a h1=>(by simp at h1),λg hg=>JA hg xU,AV T hT],Aba hp [JA,hp,xU],?_⟩;·unfold hS;rw[JO]
    ·let hT:T∈scZ:=hT;let I:sbv T.1=Aa:=by simp only[scZ,yQ,List.mem_nil_iff,or_false]at hT;rcases hT with rfl|rfl|rfl<;>decide
     show⟨#[],?_,vH,HK Y1 cv (by rw[Tr])⟩;unfold hS;rw[Azn (by let:=Y _ _ (f_ I);rw[VW,e,M];rw[Ve];cases s),Av I]
    ·change sW ((Bmv).w []) [] (Ats E) _ _ (Core.y9 Core.zb m 22 NY [.uh E] []);let:=anK m 0 hm E U N;rw[Tt,Avb [Cn,0+22] 22];rw[this];intro v H' L l S r;rw[XA,p,us,h1,h2,h3];rw[Vu,p,Hy h1 (sQ.int_inv h3)]
   let V0:AG [Kj la]=Bqg:=F.len _ _ _ _ sp;let J0:=Bd H [AC la] KX (by rw[ud];show V0);rw[ud]at J0;show PySem.W.enter_call (Bts (F.run callerA [] H (Ats E) [Ks,[AC la]] [AC la] [AC la] _ _ [Am,Ab,DC,DC] e0 J0 (EJ Ab) sp) r s' hq);cases r with
   |error e=>obtain⟨a',C',dx,H',L,_,R⟩:=hq;show R.e.elim
   |ok fl=>
    cases fl with
    |next=>show Sv hq
    |brk=>show Sv hq
    |cont=>show Sv hq
    |ret u=>
     obtain⟨v,H',os,Q0,un,G0,r',p,rfl,hp⟩:=hq;obtain rfl:u=SO:=r';rw[Tk,_,us,k,J1,Z0,G0 p _ hp];rw[Ts,AK [DB,SO,_,[p],Ab,Arv,.list (as:=[]) Z0 Ab Ab [Eb,List.toList_toArray,ae6 J1],Hg (PySem.W.OpenSpec.post_iff Hd.aeW C1 _ _) Ab,Jt (Bool.noConfusion (show Af=Aa from z))],Aj [MK,A] [Rx,A,un.there b A e AN],os,Q0];cases q:hS la lo E b with
     |none=>rw[TB,(un.keep b A e q (by intro z;rw[Ug,Cvi b ([]:Ez),AN]) AN)]
     |some u=>
      rw[Xn,f6 q,rfl,_,I,rfl];·let z2:=un.uC _ _ _ q;rw[TV,M];rw[Tr];rw[TB,(G0 _ _ z2).1]
      ·rw[Tc,D1,z2,un.uZ _ _ q];let D:=Y _ _ (f_ (P:=w.params) I);rw[TV,D];rw[Tr];rw[Uv,AK ⟨?_,Ab,#[],D1,Ab,G0 _ _ z2⟩];let cs:∀c C,sbr Aha c C=Aa->Bpq C=As (PySem.W.tabObj #[])->isCodeTable Arw C:=λc C h1 h2=>((aeT KX h1).tab h2).isCodeTable;rw[Yw,I];·show cs 864 860 (QZ [Cqw,Iu (sbr BS 864 860)=CJ]) D
       ·show cs 871 867 (QZ [Cqw,Iu (sbr BS 871 867)=CJ]) D
       ·show cs 878 874 (QZ [Cqw,Iu (sbr BS 878 874)=CJ]) D
def bf:Challenge.rw_linkparts_s01_answers.Holds:=Hd.arJ asO
end sj
end
theorem PySem.Challenge.cw_linkparts_s01_answers_holds : PySem.Challenge.rw_linkparts_s01_answers.Holds := by
 exact sj.bf
