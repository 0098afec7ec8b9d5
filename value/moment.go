package value

import (
	"dumbwaiter/api"
)

// Years of Moments, and seconds of units.
const (
	firstYear     = 1970
	lastYear      = 9999
	minuteSeconds = 60
	hourSeconds   = 60 * minuteSeconds
	daySeconds    = 24 * hourSeconds
)

// date is a date of the calendar with a time of day.
type date struct{ year, month, day, hour, minute, second int }

// Date returns the moment of a date.
func Date(year, month, day, hour, minute, second int) api.Value {
	return momentOf(date{year, month, day, hour, minute, second})
}

// momentOf returns the Moment of a date, null if there is none.
func momentOf(d date) api.Value {
	if !within(d.year, firstYear, lastYear) || !within(d.month, 1, 12) || !within(d.day, 1, monthDays(d.year, d.month)) {
		return api.Value{}
	}
	if !within(d.hour, 0, 23) || !within(d.minute, 0, 59) || !within(d.second, 0, 59) {
		return api.Value{}
	}
	days := daysAhead(d.year) + d.day - 1
	for month := 1; month < d.month; month++ {
		days += monthDays(d.year, month)
	}
	return number(api.Moment, days*daySeconds+d.hour*hourSeconds+d.minute*minuteSeconds+d.second)
}

// within reports whether a number is from least to most.
func within(n, least, most int) bool { return least <= n && n <= most }

// dateOf returns the date of a number of seconds of a Moment.
func dateOf(n int) date {
	days, rest := n/daySeconds, n%daySeconds
	// 400 years have 146097 days; this is the year, or the one next to it.
	d := date{year: firstYear + days*400/146097, month: 1}
	for daysAhead(d.year) > days {
		d.year--
	}
	for daysAhead(d.year+1) <= days {
		d.year++
	}
	days -= daysAhead(d.year)
	for days >= monthDays(d.year, d.month) {
		days -= monthDays(d.year, d.month)
		d.month++
	}
	d.day = days + 1
	d.hour, d.minute, d.second = rest/hourSeconds, rest%hourSeconds/minuteSeconds, rest%minuteSeconds
	return d
}

// daysAhead returns the number of days from the beginning of 1970 to that of a year that is not earlier.
func daysAhead(year int) int {
	return (year-firstYear)*365 + leapYears(year) - leapYears(firstYear)
}

// leapYears returns the number of leap years ahead of a year, from the year 1 on.
func leapYears(year int) int { return (year-1)/4 - (year-1)/100 + (year-1)/400 }

// monthDays returns the number of days of a month.
func monthDays(year, month int) int {
	switch month {
	case 2:
		if year%4 == 0 && year%100 != 0 || year%400 == 0 {
			return 29
		}
		return 28
	case 4, 6, 9, 11:
		return 30
	}
	return 31
}

// Unit returns a part of a moment.
func Unit(a api.Value, unit int) api.Value {
	a = clean(a)
	if a.Kind != api.Moment {
		return api.Value{}
	}
	d := dateOf(a.N)
	switch unit {
	case api.Second:
		return number(api.Int, d.second)
	case api.Minute:
		return number(api.Int, d.minute)
	case api.Hour:
		return number(api.Int, d.hour)
	case api.Day:
		return number(api.Int, d.day)
	case api.Month:
		return number(api.Int, d.month)
	case api.Year:
		return number(api.Int, d.year)
	}
	return api.Value{}
}

// Trunc returns when a unit began.
func Trunc(a api.Value, unit int) api.Value {
	a = clean(a)
	if a.Kind != api.Moment {
		return api.Value{}
	}
	d := dateOf(a.N)
	switch unit {
	case api.Second:
		return a
	case api.Minute:
		return Date(d.year, d.month, d.day, d.hour, d.minute, 0)
	case api.Hour:
		return Date(d.year, d.month, d.day, d.hour, 0, 0)
	case api.Day:
		return Date(d.year, d.month, d.day, 0, 0, 0)
	case api.Month:
		return Date(d.year, d.month, 1, 0, 0, 0)
	case api.Year:
		return Date(d.year, 1, 1, 0, 0, 0)
	}
	return api.Value{}
}

// Months returns a moment some months later.
func Months(a, n api.Value) api.Value {
	moment, count, ok := numbers(a, api.Moment, n, api.Int)
	if !ok {
		return api.Value{}
	}
	d := dateOf(moment)
	month := d.year*12 + d.month - 1 + count
	d.year = floorDiv(month, 12)
	d.month = month - 12*d.year + 1
	d.day = min(d.day, monthDays(d.year, d.month))
	return momentOf(d)
}
