package river

import (
	"thalweg/api"
	"thalweg/numbers"
)

// pack is what is left of the snow.
type pack struct {
	api.Bounds
}

// melt takes from the snow what melts of it, and returns the bounds of that; heat is what would melt if there were snow enough.
func (p *pack) melt(heat api.Bounds) api.Bounds {
	melted := api.Bounds{Low: min(heat.Low, p.Low), High: min(heat.High, p.High)}
	// The ends are crossed: the least snow is left in the truth in which the most of it has melted.
	p.Low, p.High = max(p.Low-heat.High, 0), max(p.High-heat.Low, 0)
	return melted
}

// Runoff returns what flows from the land into a reach, hour by hour.
func Runoff(c api.Catch, sky []api.SkyHour) ([]api.Bounds, api.Errno) {
	if e := checkSky(c, sky); e != api.OK {
		return nil, e
	}
	snow := pack{c.Snow}
	list := make([]api.Bounds, len(sky))
	for hour := range len(sky) {
		heat := sky[hour].Heat
		melted := snow.melt(api.Bounds{Low: c.Melt * max(heat.Low, 0), High: c.Melt * max(heat.High, 0)})
		water := numbers.Sum(sky[hour].Rain, melted)
		list[hour] = api.Bounds{
			Low:  numbers.Down(c.Area*water.Low*c.Percent, 10),
			High: numbers.Up(c.Area*water.High*c.Percent, 10),
		}
	}
	return list, api.OK
}

// checkSky returns the error of a land and of a sky above it.
func checkSky(c api.Catch, sky []api.SkyHour) api.Errno {
	if !numbers.Within(0, api.MaxArea, c.Area) || !numbers.Within(0, 100, c.Percent) || !numbers.Within(0, api.MaxMelt, c.Melt) || !numbers.Valid(c.Snow, 0, api.MaxSnow) {
		return api.ErrArg
	}
	if len(sky) > api.MaxRiverHours {
		return api.ErrLong
	}
	if !numbers.Every(sky, func(h api.SkyHour) bool {
		return numbers.Valid(h.Rain, 0, api.MaxRain) && numbers.Valid(h.Heat, -api.MaxHeat, api.MaxHeat)
	}) {
		return api.ErrArg
	}
	return api.OK
}
