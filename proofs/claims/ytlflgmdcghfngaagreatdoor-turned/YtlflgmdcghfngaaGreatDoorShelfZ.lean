/- The library contracts that the walks call, laid over this dump. -/
import Derived.Test.YtlflgmdcghfngaaGreatDoorA0
import Derived.Shelf.Strings.Builder1
import Derived.Shelf.Strings.Builder2
import Derived.Shelf.Strings.OnBuilder
import Derived.Shelf.Small.Bits
import Derived.Shelf.Small.Strs
import Derived.Shelf.Small.Wraps
import Derived.Shelf.Utf8.RuneCount
import Derived.Shelf.Strconv.Itoa0
import Derived.Shelf.Strconv.Itoa1
import Derived.Shelf.LaysM
import Derived.Shelf.Strconv.Itoa2
import Derived.Shelf.Strconv.Itoa3
import Derived.Shelf.Strconv.Itoa4
import Derived.Shelf.Strconv.ParseIntEmpty
import Derived.Shelf.Strconv.Clone
import Derived.Shelf.Strconv.SyntaxError
import Derived.Shelf.LaysC
import Derived.Shelf.Strconv.ToError
import Derived.Shelf.Strconv.Lower
import Derived.Shelf.Strconv.ParseUint10
import Derived.Shelf.Strconv.ParseUint10Empty
import Derived.Shelf.Strconv.ParseUint10Any
import Derived.Shelf.Strconv.ParseInt10
import Derived.Shelf.Strconv.RangeError
import Derived.Shelf.Strconv.ToErrorRange
import Derived.Shelf.Strconv.ParseUintEmpty
import Derived.Shelf.Strconv.ParseUint10b64
import Derived.Shelf.Strconv.ParseUint10b32
import Derived.Shelf.Strconv.ParseUint10b16
import Derived.Shelf.Strconv.ParseUint10b8
import Derived.Shelf.Strconv.ParseUint10At
import Derived.Shelf.Strconv.ParseInt10At64
import Derived.Shelf.Strconv.ParseInt10At32
import Derived.Shelf.Strconv.ParseInt10At16
import Derived.Shelf.Strconv.ParseInt10At8
import Derived.Shelf.Strconv.ParseInt10All
import Derived.Shelf.Strconv.ParseIntPublic10
import Derived.Shelf.Strconv.ErrVarParseInt
import Derived.Shelf.Strings.Prefix
import Derived.Shelf.Unicode.Decode
import Derived.Shelf.Strings.RuneCount
import Derived.Shelf.Unicode.DecodeSlow
import Derived.Shelf.Unicode.DecodeAny
import Derived.Ground.Names2Prog
import Derived.Shelf.Slices.Clone
import Derived.Shelf.Slices.SearchI
import Derived.Ground.SlgnProg
import Derived.Shelf.SlicesE.Clone
import Derived.Test.YtlflgmdcghfngaaGreatDoorProg
import Derived.Shelf.SlSortCmp.NoneTotal
import Derived.Shelf.SlLaysF0
import Derived.Shelf.SlGeneric
set_option linter.defProp false
set_option maxRecDepth 100000
namespace Go.Proofs
open _root_.Go.Proofs.Tryz
open Go.Shelf
def laysC174_ren:Go.Shelf.Ren:=⟨fun|174=>194|247=>210|245=>211|287=>219|279=>220|280=>221|281=>222|282=>223|321=>225|322=>226|316=>60|171=>228|205=>227|243=>230|246=>135|283=>175|284=>176|285=>177|286=>178|129=>147|317=>202|318=>203|319=>204|320=>205|337=>214|338=>215|n=>n,fun|9=>9|3=>3|2=>2|75=>295|85=>318|4=>4|167=>344|5=>5|53=>260|175=>345|46=>192|168=>347|37=>173|0=>0|210=>354|21=>21|127=>174|145=>358|143=>356|171=>286|173=>288|212=>331|51=>258|20=>20|213=>332|232=>350|233=>351|80=>298|n=>n,fun|15=>7|16=>8|17=>4|18=>5|19=>6|n=>n⟩
def laysC174:Go.Proofs.LaysC.n174 prog laysC174_ren:={
 mixed:=by kernel_rfl
 f129:=func147.trans (congrArg some (by kernel_rfl))
 f171:=func228.trans (congrArg some (by kernel_rfl))
 f174:=func194.trans (congrArg some (by kernel_rfl))
 f205:=func227.trans (congrArg some (by kernel_rfl))
 f243:=func230.trans (congrArg some (by kernel_rfl))
 f245:=func211.trans (congrArg some (by kernel_rfl))
 f246:=func135.trans (congrArg some (by kernel_rfl))
 f247:=func210.trans (congrArg some (by kernel_rfl))
 f279:=func220.trans (congrArg some (by kernel_rfl))
 f280:=func221.trans (congrArg some (by kernel_rfl))
 f281:=func222.trans (congrArg some (by kernel_rfl))
 f282:=func223.trans (congrArg some (by kernel_rfl))
 f283:=func175.trans (congrArg some (by kernel_rfl))
 f284:=func176.trans (congrArg some (by kernel_rfl))
 f285:=func177.trans (congrArg some (by kernel_rfl))
 f286:=func178.trans (congrArg some (by kernel_rfl))
 f287:=func219.trans (congrArg some (by kernel_rfl))
 f316:=func60.trans (congrArg some (by kernel_rfl))
 f317:=func202.trans (congrArg some (by kernel_rfl))
 f318:=func203.trans (congrArg some (by kernel_rfl))
 f319:=func204.trans (congrArg some (by kernel_rfl))
 f320:=func205.trans (congrArg some (by kernel_rfl))
 f321:=func225.trans (congrArg some (by kernel_rfl))
 f322:=func226.trans (congrArg some (by kernel_rfl))
 f337:=func214.trans (congrArg some (by kernel_rfl))
 f338:=func215.trans (congrArg some (by kernel_rfl))
 t0:=underlying0
 a0:=isAgg0
 z0:=sizeOf0
 v0:=zeroValue0
 t2:=underlying2
 a2:=isAgg2
 z2:=sizeOf2
 v2:=zeroValue2
 t3:=underlying3
 a3:=isAgg3
 z3:=sizeOf3
 v3:=zeroValue3
 t4:=underlying4
 a4:=isAgg4
 z4:=sizeOf4
 v4:=zeroValue4
 t5:=underlying5
 a5:=isAgg5
 z5:=sizeOf5
 v5:=zeroValue5
 t9:=underlying9
 a9:=isAgg9
 z9:=sizeOf9
 v9:=zeroValue9
 t20:=underlying20
 a20:=isAgg20
 z20:=sizeOf20
 v20:=zeroValue20
 t21:=underlying21
 a21:=isAgg21
 z21:=sizeOf21
 v21:=zeroValue21
 t37:=underlying173
 a37:=isAgg173
 z37:=sizeOf173
 v37:=zeroValue173
 t46:=underlying192
 a46:=isAgg192
 z46:=sizeOf192
 v46:=zeroValue192
 t51:=underlying258
 a51:=isAgg258
 z51:=sizeOf258
 v51:=zeroValue258
 t53:=underlying260
 a53:=isAgg260
 z53:=sizeOf260
 v53:=zeroValue260
 t75:=underlying295
 a75:=isAgg295
 z75:=sizeOf295
 v75:=zeroValue295
 t85:=underlying318
 a85:=isAgg318
 z85:=sizeOf318
 v85:=zeroValue318
 t127:=underlying174
 a127:=isAgg174
 z127:=sizeOf174
 v127:=zeroValue174
 t143:=underlying356
 a143:=isAgg356
 z143:=sizeOf356
 v143:=zeroValue356
 t145:=underlying358
 a145:=isAgg358
 z145:=sizeOf358
 v145:=zeroValue358
 t167:=underlying344
 a167:=isAgg344
 z167:=sizeOf344
 v167:=zeroValue344
 t168:=underlying347
 a168:=isAgg347
 z168:=sizeOf347
 v168:=zeroValue347
 t171:=underlying286
 a171:=isAgg286
 z171:=sizeOf286
 v171:=zeroValue286
 t173:=underlying288
 a173:=isAgg288
 z173:=sizeOf288
 v173:=zeroValue288
 t175:=underlying345
 a175:=isAgg345
 z175:=sizeOf345
 v175:=zeroValue345
 t210:=underlying354
 a210:=isAgg354
 z210:=sizeOf354
 v210:=zeroValue354
 t212:=underlying331
 a212:=isAgg331
 z212:=sizeOf331
 v212:=zeroValue331
 t213:=underlying332
 a213:=isAgg332
 z213:=sizeOf332
 t232:=underlying350
 a232:=isAgg350
 z232:=sizeOf350
 v232:=zeroValue350
 t233:=underlying351
 a233:=isAgg351
 z233:=sizeOf351
 v233:=zeroValue351
 g15:=by kernel_rfl
 g16:=by kernel_rfl
 g17:=by kernel_rfl
 g18:=by kernel_rfl
 g19:=by kernel_rfl
 t80:=underlying298
 a80:=isAgg298
 z80:=sizeOf298
 v80:=zeroValue298
 i0:=by kernel_rfl
 i2:=by kernel_rfl
 i3:=by kernel_rfl
 i4:=by kernel_rfl
 i5:=by kernel_rfl
 i9:=by kernel_rfl
 i20:=by kernel_rfl
 i21:=by kernel_rfl
 i37:=by kernel_rfl
 i46:=by kernel_rfl
 i51:=by kernel_rfl
 i53:=by kernel_rfl
 i75:=by kernel_rfl
 i80:=by kernel_rfl
 i85:=by kernel_rfl
 i127:=by kernel_rfl
 i143:=by kernel_rfl
 i145:=by kernel_rfl
 i167:=by kernel_rfl
 i168:=by kernel_rfl
 i171:=by kernel_rfl
 i173:=by kernel_rfl
 i175:=by kernel_rfl
 i210:=by kernel_rfl
 i212:=by kernel_rfl
 i232:=by kernel_rfl
 i233:=by kernel_rfl
 m15:=by kernel_rfl
 m16:=by kernel_rfl
 m17:=by kernel_rfl
 m18:=by kernel_rfl
 m19:=by kernel_rfl
 c0:=by kernel_rfl
 c2:=by kernel_rfl
 c3:=by kernel_rfl
 c4:=by kernel_rfl
 c5:=by kernel_rfl
 c9:=by kernel_rfl
 c20:=by kernel_rfl
 c21:=by kernel_rfl
 c37:=by kernel_rfl
 c46:=by kernel_rfl
 c51:=by kernel_rfl
 c53:=by kernel_rfl
 c75:=by kernel_rfl
 c80:=by kernel_rfl
 c85:=by kernel_rfl
 c127:=by kernel_rfl
 c143:=by kernel_rfl
 c145:=by kernel_rfl
 c167:=by kernel_rfl
 c168:=by kernel_rfl
 c171:=by kernel_rfl
 c173:=by kernel_rfl
 c175:=by kernel_rfl
 c210:=by kernel_rfl
 c212:=by kernel_rfl
 c213:=by kernel_rfl
 c232:=by kernel_rfl
 c233:=by kernel_rfl }
open Go.RowKit in
def strconv_ParseInt_10_at64_ok(s:ByteArray)(a:s.size<=9223372036854775806)(v:Int)(h:Lib.parseIntB 64 s.data.toList=.ok v)(w:World):
 Calls prog 194 #[.string s,.int .i64 10,.int .i64 64] w fun e b=>e=.returned (.tuple #[.int .i64 v,.nilIface])/\(b=w\/∃t,b=Lib.bytesWorld w 5 t):=Any.strconv_ParseInt_10_at64_ok laysC174 s a v h w
open Go.RowKit in
def strconv_ParseInt_10_at64_range(s:ByteArray)(b:s.size<=281474976710656)(h:Lib.parseIntB 64 s.data.toList=.range)(a:Value)(w:World)(g:w.cell? ⟨8,0,none⟩=some a)(c:a=.nilIface\/∃f i,a=.iface f i):
 Calls prog 194 #[.string s,.int .i64 10,.int .i64 64] w fun e d=>∃N,e=.returned (.tuple #[.int .i64 (Lib.intSat 64 s.data.toList),.iface 347 (.pointer (some ⟨N,0,none⟩))])/\w.heap.size<=N/\d.heap[N]?=some (.cells #[.string ⟨#[80,97,114,115,101,73,110,116]⟩,.string s,a] 354 (0,0))/\Below w.heap.size w d:=Any.strconv_ParseInt_10_at64_range laysC174 s b h a w g c
def lays197_ren:Go.Shelf.Ren:=⟨fun|197=>121|260=>160|n=>n,fun|9=>9|21=>21|3=>3|4=>4|5=>5|105=>231|119=>314|0=>0|46=>192|139=>317|138=>316|n=>n,fun|3=>1|4=>2|n=>n⟩
def lays197:Go.Proofs.Lays.n197 prog lays197_ren:={
 mixed:=by kernel_rfl
 f197:=func121.trans (congrArg some (by kernel_rfl))
 f260:=func160.trans (congrArg some (by kernel_rfl))
 t0:=underlying0
 a0:=isAgg0
 z0:=sizeOf0
 v0:=zeroValue0
 t3:=underlying3
 a3:=isAgg3
 z3:=sizeOf3
 v3:=zeroValue3
 t4:=underlying4
 a4:=isAgg4
 z4:=sizeOf4
 v4:=zeroValue4
 t5:=underlying5
 a5:=isAgg5
 z5:=sizeOf5
 v5:=zeroValue5
 t9:=underlying9
 a9:=isAgg9
 z9:=sizeOf9
 v9:=zeroValue9
 t21:=underlying21
 a21:=isAgg21
 z21:=sizeOf21
 v21:=zeroValue21
 t46:=underlying192
 a46:=isAgg192
 z46:=sizeOf192
 v46:=zeroValue192
 t105:=underlying231
 a105:=isAgg231
 z105:=sizeOf231
 v105:=zeroValue231
 t119:=underlying314
 a119:=isAgg314
 z119:=sizeOf314
 t138:=underlying316
 a138:=isAgg316
 z138:=sizeOf316
 v138:=zeroValue316
 t139:=underlying317
 a139:=isAgg317
 z139:=sizeOf317
 v139:=zeroValue317
 g3:=by kernel_rfl
 g4:=by kernel_rfl }
open Go.RowKit Go.Lib in
def utf8_DecodeRuneInString(s:ByteArray)(w:World)(b:Lib.Utf8Tabs 1 2 w):
 Calls prog 121 #[.string s] w fun e a=>e=.returned (.tuple #[.int .i32 (Lib.decodeGo s).1,.int .i64 (Lib.decodeGo s).2])/\Below w.heap.size w a:=Any.utf8_DecodeRuneInString lays197 s w b
end Go.Proofs
namespace Go.Proofs
open _root_.Go.Proofs.Tryz
def lays156_ren:Go.Shelf.Ren:=⟨fun|156=>137|165=>179|166=>180|169=>181|240=>206|241=>207|276=>216|277=>217|n=>n,fun|31=>32|9=>9|3=>3|4=>4|0=>0|20=>20|72=>292|76=>296|70=>290|37=>173|75=>295|127=>174|164=>341|5=>5|80=>298|n=>n,fun|n=>n⟩
def lays156:Go.Proofs.Lays.n156 prog lays156_ren:={
 mixed:=by kernel_rfl
 f156:=func137.trans (congrArg some (by kernel_rfl))
 f165:=func179.trans (congrArg some (by kernel_rfl))
 f166:=func180.trans (congrArg some (by kernel_rfl))
 f169:=func181.trans (congrArg some (by kernel_rfl))
 f240:=func206.trans (congrArg some (by kernel_rfl))
 f241:=func207.trans (congrArg some (by kernel_rfl))
 f276:=func216.trans (congrArg some (by kernel_rfl))
 f277:=func217.trans (congrArg some (by kernel_rfl))
 t0:=underlying0
 a0:=isAgg0
 z0:=sizeOf0
 v0:=zeroValue0
 t3:=underlying3
 a3:=isAgg3
 z3:=sizeOf3
 v3:=zeroValue3
 t4:=underlying4
 a4:=isAgg4
 z4:=sizeOf4
 v4:=zeroValue4
 t9:=underlying9
 a9:=isAgg9
 z9:=sizeOf9
 v9:=zeroValue9
 t20:=underlying20
 a20:=isAgg20
 z20:=sizeOf20
 v20:=zeroValue20
 t31:=underlying32
 a31:=isAgg32
 z31:=sizeOf32
 v31:=zeroValue32
 t37:=underlying173
 a37:=isAgg173
 z37:=sizeOf173
 v37:=zeroValue173
 t70:=underlying290
 a70:=isAgg290
 z70:=sizeOf290
 v70:=zeroValue290
 t72:=underlying292
 a72:=isAgg292
 z72:=sizeOf292
 v72:=zeroValue292
 t75:=underlying295
 a75:=isAgg295
 z75:=sizeOf295
 v75:=zeroValue295
 t76:=underlying296
 a76:=isAgg296
 z76:=sizeOf296
 v76:=zeroValue296
 t127:=underlying174
 a127:=isAgg174
 z127:=sizeOf174
 v127:=zeroValue174
 t164:=underlying341
 a164:=isAgg341
 z164:=sizeOf341
 v164:=zeroValue341 }
def Builder_Extra_156:Builder.Extra prog lays156_ren:={
 sizeBuilder:=by kernel_rfl
 liesBuilder:=by kernel_rfl
 t5:=underlying5
 a5:=isAgg5
 z5:=sizeOf5
 v5:=zeroValue5
 infoByte:=by kernel_rfl
 cellsByte:=by kernel_rfl
 sizeByte:=by kernel_rfl
 neB5:=by decide }
open Go.RowKit in
def strings_Join_none(a:Option Addr)(c:Nat)(b:ByteArray)(w:World):
 Calls prog 137 #[.slice a 0 c,.string b] w fun e d=>e=.returned (.string ⟨#[]⟩)/\d=w:=Any.strings_Join_none lays156 Builder_Extra_156 a c b w
open Go.RowKit in
def strings_Join(g o c:Nat)(xs:List ByteArray)(a:ByteArray)(w:World)(b:∀(j:Nat) x,xs[j]?=some x->w.cell? ⟨g,o+j,none⟩=some (.string x))(h:g<w.heap.size)(k:xs.length<=140737488355328)(d:xs.length<=c)(f:(Lib.join (xs.map (·.data.toList)) a.data.toList).length<=140737488355328):
 Calls prog 137 #[.slice (some ⟨g,o,none⟩) xs.length c,.string a] w fun e i=>e=.returned (.string ⟨(Lib.join (xs.map (·.data.toList)) a.data.toList).toArray⟩)/\Below w.heap.size w i:=Any.strings_Join lays156 Builder_Extra_156 g o c xs a w b h k d f
def lays106_ren:Go.Shelf.Ren:=⟨fun|106=>77|213=>106|265=>148|n=>n,fun|9=>9|3=>3|n=>n,fun|n=>n⟩
def lays106:Go.Proofs.Lays.n106 prog lays106_ren:={
 mixed:=by kernel_rfl
 f106:=func77.trans (congrArg some (by kernel_rfl))
 f213:=func106.trans (congrArg some (by kernel_rfl))
 f265:=func148.trans (congrArg some (by kernel_rfl))
 t3:=underlying3
 a3:=isAgg3
 z3:=sizeOf3
 v3:=zeroValue3
 t9:=underlying9
 a9:=isAgg9
 z9:=sizeOf9
 v9:=zeroValue9 }
open Go.RowKit in
def strings_Compare(a b:ByteArray)(w:World):
 Calls prog 77 #[.string a,.string b] w fun e c=>e=.returned (.int .i64 (Lib.compareBytes a.data.toList b.data.toList))/\c=w:=Any.strings_Compare lays106 a b w
def lays121_ren:Go.Shelf.Ren:=⟨fun|121=>102|214=>136|n=>n,fun|4=>4|9=>9|n=>n,fun|n=>n⟩
def lays121:Go.Proofs.Lays.n121 prog lays121_ren:={
 mixed:=by kernel_rfl
 f121:=func102.trans (congrArg some (by kernel_rfl))
 f214:=func136.trans (congrArg some (by kernel_rfl))
 t4:=underlying4
 a4:=isAgg4
 z4:=sizeOf4
 v4:=zeroValue4
 t9:=underlying9
 a9:=isAgg9
 z9:=sizeOf9
 v9:=zeroValue9 }
open Go.RowKit in
def strconv_FormatBool(b:Bool)(w:World):
 Calls prog 102 #[.bool b] w fun e a=>e=.returned (.string ⟨(Lib.formatBool b).toArray⟩)/\a=w:=Any.strconv_FormatBool lays121 b w
def lays195_ren:Go.Shelf.Ren:=⟨fun|195=>280|n=>n,fun|9=>9|3=>3|0=>0|4=>4|n=>n,fun|n=>n⟩
def lays195:Go.Proofs.Lays.n195 prog lays195_ren:={
 mixed:=by kernel_rfl
 f195:=func280.trans (congrArg some (by kernel_rfl))
 t0:=underlying0
 a0:=isAgg0
 z0:=sizeOf0
 v0:=zeroValue0
 t3:=underlying3
 a3:=isAgg3
 z3:=sizeOf3
 v3:=zeroValue3
 t4:=underlying4
 a4:=isAgg4
 z4:=sizeOf4
 v4:=zeroValue4
 t9:=underlying9
 a9:=isAgg9
 z9:=sizeOf9
 v9:=zeroValue9 }
open Go.RowKit in
def utf8_RuneCountInString(s:ByteArray)(w:World)(c:s.size<9223372036854775807):
 Calls prog 280 #[.string s] w fun e b=>e=.returned (.int .i64 (Lib.runeCount s))/\∃a,b=w.iter s a:=Any.utf8_RuneCountInString lays195 s w c
def laysM173_ren:Go.Shelf.Ren:=⟨fun|173=>101|246=>135|283=>175|284=>176|285=>177|286=>178|129=>147|317=>202|318=>203|319=>204|320=>205|337=>214|338=>215|n=>n,fun|2=>2|3=>3|9=>9|4=>4|171=>286|0=>0|53=>260|37=>173|5=>5|173=>288|212=>331|51=>258|20=>20|213=>332|46=>192|232=>350|233=>351|n=>n,fun|17=>4|18=>5|19=>6|n=>n⟩
def laysM173:Go.Proofs.LaysM.n173 prog laysM173_ren:={
 mixed:=by kernel_rfl
 f129:=func147.trans (congrArg some (by kernel_rfl))
 f173:=func101.trans (congrArg some (by kernel_rfl))
 f246:=func135.trans (congrArg some (by kernel_rfl))
 f283:=func175.trans (congrArg some (by kernel_rfl))
 f284:=func176.trans (congrArg some (by kernel_rfl))
 f285:=func177.trans (congrArg some (by kernel_rfl))
 f286:=func178.trans (congrArg some (by kernel_rfl))
 f317:=func202.trans (congrArg some (by kernel_rfl))
 f318:=func203.trans (congrArg some (by kernel_rfl))
 f319:=func204.trans (congrArg some (by kernel_rfl))
 f320:=func205.trans (congrArg some (by kernel_rfl))
 f337:=func214.trans (congrArg some (by kernel_rfl))
 f338:=func215.trans (congrArg some (by kernel_rfl))
 t0:=underlying0
 a0:=isAgg0
 z0:=sizeOf0
 v0:=zeroValue0
 t2:=underlying2
 a2:=isAgg2
 z2:=sizeOf2
 v2:=zeroValue2
 t3:=underlying3
 a3:=isAgg3
 z3:=sizeOf3
 v3:=zeroValue3
 t4:=underlying4
 a4:=isAgg4
 z4:=sizeOf4
 v4:=zeroValue4
 t5:=underlying5
 a5:=isAgg5
 z5:=sizeOf5
 v5:=zeroValue5
 t9:=underlying9
 a9:=isAgg9
 z9:=sizeOf9
 v9:=zeroValue9
 t20:=underlying20
 a20:=isAgg20
 z20:=sizeOf20
 v20:=zeroValue20
 t37:=underlying173
 a37:=isAgg173
 z37:=sizeOf173
 v37:=zeroValue173
 t46:=underlying192
 a46:=isAgg192
 z46:=sizeOf192
 v46:=zeroValue192
 t51:=underlying258
 a51:=isAgg258
 z51:=sizeOf258
 v51:=zeroValue258
 t53:=underlying260
 a53:=isAgg260
 z53:=sizeOf260
 v53:=zeroValue260
 t171:=underlying286
 a171:=isAgg286
 z171:=sizeOf286
 v171:=zeroValue286
 t173:=underlying288
 a173:=isAgg288
 z173:=sizeOf288
 v173:=zeroValue288
 t212:=underlying331
 a212:=isAgg331
 z212:=sizeOf331
 v212:=zeroValue331
 t213:=underlying332
 a213:=isAgg332
 z213:=sizeOf332
 t232:=underlying350
 a232:=isAgg350
 z232:=sizeOf350
 v232:=zeroValue350
 t233:=underlying351
 a233:=isAgg351
 z233:=sizeOf351
 v233:=zeroValue351
 g17:=by kernel_rfl
 g18:=by kernel_rfl
 g19:=by kernel_rfl
 i0:=by kernel_rfl
 i2:=by kernel_rfl
 i3:=by kernel_rfl
 i4:=by kernel_rfl
 i5:=by kernel_rfl
 i9:=by kernel_rfl
 i20:=by kernel_rfl
 i37:=by kernel_rfl
 i46:=by kernel_rfl
 i51:=by kernel_rfl
 i53:=by kernel_rfl
 i171:=by kernel_rfl
 i173:=by kernel_rfl
 i212:=by kernel_rfl
 i232:=by kernel_rfl
 i233:=by kernel_rfl
 m17:=by kernel_rfl
 m18:=by kernel_rfl
 m19:=by kernel_rfl }
open Go.RowKit Go.Sort Go.Lib in
def strconv_FormatInt_10(n:Int)(f: -9223372036854775808<=n)(d:n<=9223372036854775807)(w:World)(a:Lib.TabIs prog w "internal/strconv.uint64pow10" .u64 Lib.pow10Tab):
 Calls prog 101 #[.int .i64 n,.int .i64 10] w fun e b=>e=.returned (.string ⟨(Lib.itoa n).toArray⟩)/\∃k c,b=grow (w.drewN k) c:=Any.strconv_FormatInt_10 laysM173 n f d w a
end Go.Proofs
namespace Go.Proofs
open _root_.Go.Proofs.Tryz
def laysM316_ren:Go.Shelf.Ren:=⟨fun|316=>60|n=>n,fun|9=>9|3=>3|4=>4|37=>173|0=>0|127=>174|5=>5|n=>n,fun|n=>n⟩
def laysM316:Go.Proofs.LaysM.n316 prog laysM316_ren:={
 mixed:=by kernel_rfl
 f316:=func60.trans (congrArg some (by kernel_rfl))
 t0:=underlying0
 a0:=isAgg0
 z0:=sizeOf0
 v0:=zeroValue0
 t3:=underlying3
 a3:=isAgg3
 z3:=sizeOf3
 v3:=zeroValue3
 t4:=underlying4
 a4:=isAgg4
 z4:=sizeOf4
 v4:=zeroValue4
 t9:=underlying9
 a9:=isAgg9
 z9:=sizeOf9
 v9:=zeroValue9
 t37:=underlying173
 a37:=isAgg173
 z37:=sizeOf173
 v37:=zeroValue173
 t127:=underlying174
 a127:=isAgg174
 z127:=sizeOf174
 v127:=zeroValue174
 t5:=underlying5
 a5:=isAgg5
 z5:=sizeOf5
 v5:=zeroValue5
 i0:=by kernel_rfl
 i3:=by kernel_rfl
 i4:=by kernel_rfl
 i5:=by kernel_rfl
 i9:=by kernel_rfl
 i37:=by kernel_rfl
 i127:=by kernel_rfl }
open Go.RowKit in
def stringslite_Clone(s:ByteArray)(w:World)(a:s.size<=281474976710656):
 Calls prog 60 #[.string s] w fun e b=>e=.returned (.string s)/\Below w.heap.size w b:=Any.stringslite_Clone laysM316 s w a
end Go.Proofs
namespace Go.Proofs
open _root_.Go.Proofs.Tryz
def sortL_ren:Go.Shelf.Ren:=⟨fun|6=>75|15=>105|14=>104|28=>146|29=>147|20=>138|21=>139|22=>140|23=>141|24=>142|25=>143|26=>144|27=>145|46=>182|47=>183|48=>184|49=>185|50=>186|57=>208|n=>n,fun|22=>31|24=>65|25=>141|3=>3|39=>192|0=>0|53=>258|55=>260|4=>4|46=>252|45=>251|50=>126|5=>5|9=>9|66=>299|70=>303|76=>333|77=>334|n=>n,fun|n=>n⟩
def sortL:Go.Proofs.SlLaysF0.n6 prog sortL_ren:={
 mixed:=by kernel_rfl
 f6:=⟨f75.name,by decide,func75.trans (congrArg some (by kernel_rfl))⟩
 f14:=⟨f104.name,by decide,func104.trans (congrArg some (by kernel_rfl))⟩
 f15:=func105.trans (congrArg some (by kernel_rfl))
 f20:=⟨f138.name,by decide,func138.trans (congrArg some (by kernel_rfl))⟩
 f21:=⟨f139.name,by decide,func139.trans (congrArg some (by kernel_rfl))⟩
 f22:=⟨f140.name,by decide,func140.trans (congrArg some (by kernel_rfl))⟩
 f23:=⟨f141.name,by decide,func141.trans (congrArg some (by kernel_rfl))⟩
 f24:=⟨f142.name,by decide,func142.trans (congrArg some (by kernel_rfl))⟩
 f25:=⟨f143.name,by decide,func143.trans (congrArg some (by kernel_rfl))⟩
 f26:=⟨f144.name,by decide,func144.trans (congrArg some (by kernel_rfl))⟩
 f27:=⟨f145.name,by decide,func145.trans (congrArg some (by kernel_rfl))⟩
 f28:=func146.trans (congrArg some (by kernel_rfl))
 f29:=func147.trans (congrArg some (by kernel_rfl))
 f46:=⟨f182.name,by decide,func182.trans (congrArg some (by kernel_rfl))⟩
 f47:=func183.trans (congrArg some (by kernel_rfl))
 f48:=func184.trans (congrArg some (by kernel_rfl))
 f49:=⟨f185.name,by decide,func185.trans (congrArg some (by kernel_rfl))⟩
 f50:=⟨f186.name,by decide,func186.trans (congrArg some (by kernel_rfl))⟩
 f57:=⟨f208.name,by decide,func208.trans (congrArg some (by kernel_rfl))⟩
 t0:=underlying0
 a0:=isAgg0
 z0:=sizeOf0
 v0:=zeroValue0
 t3:=underlying3
 a3:=isAgg3
 z3:=sizeOf3
 v3:=zeroValue3
 t4:=underlying4
 a4:=isAgg4
 z4:=sizeOf4
 v4:=zeroValue4
 t5:=underlying5
 a5:=isAgg5
 z5:=sizeOf5
 v5:=zeroValue5
 t9:=underlying9
 a9:=isAgg9
 z9:=sizeOf9
 v9:=zeroValue9
 t22:=underlying31
 a22:=isAgg31
 z22:=sizeOf31
 v22:=zeroValue31
 t25:=underlying141
 a25:=isAgg141
 z25:=sizeOf141
 v25:=zeroValue141
 t39:=underlying192
 a39:=isAgg192
 z39:=sizeOf192
 v39:=zeroValue192
 t45:=underlying251
 a45:=isAgg251
 z45:=sizeOf251
 v45:=zeroValue251
 t46:=underlying252
 a46:=isAgg252
 z46:=sizeOf252
 v46:=zeroValue252
 t50:=underlying126
 a50:=isAgg126
 z50:=sizeOf126
 v50:=zeroValue126
 t53:=underlying258
 a53:=isAgg258
 z53:=sizeOf258
 v53:=zeroValue258
 t55:=underlying260
 a55:=isAgg260
 z55:=sizeOf260
 v55:=zeroValue260
 t66:=underlying299
 a66:=isAgg299
 z66:=sizeOf299
 v66:=zeroValue299
 t70:=underlying303
 a70:=isAgg303
 z70:=sizeOf303
 v70:=zeroValue303
 t76:=underlying333
 a76:=isAgg333
 z76:=sizeOf333
 v76:=zeroValue333
 t77:=underlying334
 a77:=isAgg334
 z77:=sizeOf334
 v77:=zeroValue334 }
end Go.Proofs
