"""Circlesettle: sheets whose formulas go in circles, and their least and greatest solutions."""
