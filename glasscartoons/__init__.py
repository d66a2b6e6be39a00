"""Cartoons: drawings of glass windows, judged by rule and place."""
